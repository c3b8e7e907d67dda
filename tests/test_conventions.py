"""Point [2]: arguments stay as they are, results are new, and equal calls are answered equally."""

import unittest
from copy import deepcopy

from sparehands.houses import is_house, is_roster, takers
from sparehands.pairs import (
    find_need,
    find_obstacle,
    find_with,
    find_without,
    is_need,
    is_obstacle,
    possible_pairs,
    sure_pairs,
)
from sparehands.rosters import find_roster, find_short, is_short
from tests.trying import CHAIN, PAIRS, WIDE, large_cases, odd_values, pairs_by_words

HOUSES = [(PAIRS, ()), (PAIRS, (0,)), (CHAIN, ()), (CHAIN, (2,)), (WIDE, (1, 3)), ((3, ()), (0,))]


def cases_with_a_roster():
    return HOUSES + [case for case in large_cases(120) if find_roster(*case) is not None]


def calls(house, gone):
    """Calls of all functions that return something else than a bool."""
    yield takers, (house, gone, tuple(range(len(house[1]))))
    for function in (find_roster, find_short, possible_pairs, sure_pairs):
        yield function, (house, gone)
    for post, person in pairs_by_words(house, gone):
        for function in (find_with, find_obstacle, find_without, find_need):
            yield function, (house, gone, post, person)


def checks(house, gone, value):
    """Calls of all functions that take any value."""
    yield is_house, (value,)
    yield is_roster, (house, gone, value)
    yield is_short, (house, gone, value)
    for post, person in pairs_by_words(house, gone)[:2]:
        yield is_obstacle, (house, gone, post, person, value)
        yield is_need, (house, gone, post, person, value)


def kinds(value):
    """The value with the kind of each part of it, in which True is not 1."""
    if isinstance(value, dict):
        return (dict, [(kinds(key), kinds(value[key])) for key in value])
    if isinstance(value, (tuple, list)):
        return (type(value), [kinds(item) for item in value])
    return (type(value), value)


class Conventions(unittest.TestCase):
    def test_arguments_are_unchanged(self):
        for house, gone in cases_with_a_roster():
            for function, arguments in calls(house, gone):
                before = kinds(arguments)
                function(*arguments)
                self.assertEqual(kinds(arguments), before, function)

    def test_any_value_is_unchanged(self):
        for value in odd_values():
            for house, gone in HOUSES:
                before = kinds(value)
                for function, arguments in checks(house, gone, value):
                    self.assertIs(type(function(*arguments)), bool)
                self.assertEqual(kinds(value), before)

    def test_any_value_gets_equal_answers(self):
        for value in odd_values():
            for house, gone in HOUSES:
                for function, arguments in checks(house, gone, value):
                    self.assertIs(function(*arguments), function(*deepcopy(arguments)))

    def test_equal_arguments_get_equal_results(self):
        for house, gone in cases_with_a_roster():
            for function, arguments in calls(house, gone):
                self.assertEqual(kinds(function(*arguments)), kinds(function(*deepcopy(arguments))), function)

    def test_a_changed_result_does_not_change_the_next_one(self):
        changed = 0
        for house, gone in cases_with_a_roster():
            for function, arguments in calls(house, gone):
                first = function(*arguments)
                if isinstance(first, list):
                    before = list(first)
                    first.append("changed")
                    first.reverse()
                    again = function(*arguments)
                    self.assertIsNot(again, first)
                    self.assertEqual(again, before, function)
                    changed += 1
        self.assertGreater(changed, 100)

    def test_kinds_of_results(self):
        for house, gone in cases_with_a_roster():
            for function, arguments in calls(house, gone):
                found = function(*arguments)
                if function in (takers, possible_pairs, sure_pairs):
                    self.assertIs(type(found), list)
                elif found is not None:
                    self.assertIs(type(found), tuple)
                    self.assertTrue(all(type(item) is int for item in found))
            for pair in possible_pairs(house, gone) + sure_pairs(house, gone):
                self.assertEqual([type(pair), type(pair[0]), type(pair[1])], [tuple, int, int])
