"""Stage 6, point [9]."""

import unittest
from itertools import product
from random import Random

from sparehands.away import find_limit, find_most_away, is_away, is_limit, limit_of, most_away
from tests.trying import (
    CHAIN,
    PAIRS,
    WIDE,
    ascending_by_words,
    ascending_tuples,
    away_sets_by_trying,
    fitting_cases,
    is_limit_by_words,
    large_fitting_cases,
    limit_by_words,
    odd_values,
    rosters_by_trying,
    some_of,
    there_by_words,
    together,
    variants,
)


class Away(unittest.TestCase):
    def test_examples(self):
        self.assertIs(is_away(CHAIN, (), (1,)), True)
        self.assertIs(is_away(CHAIN, (), (1, 2)), False)
        self.assertEqual(most_away(CHAIN, (), (1, 2)), 1)
        self.assertEqual(most_away(WIDE, (), (0, 1, 2, 3)), 2)
        self.assertEqual(find_limit(WIDE, (), (0, 1, 2, 3)), (0, 1))

    def test_no_posts(self):
        for gone in ((), (1,), (0, 1, 2)):
            there = tuple(there_by_words((3, ()), gone))
            self.assertIs(is_away((3, ()), gone, there), True)
            self.assertEqual(most_away((3, ()), gone, there), len(there))
            self.assertEqual(find_most_away((3, ()), gone, there), there)
            self.assertEqual(find_limit((3, ()), gone, there), ())
            self.assertEqual(limit_of((3, ()), gone, there, ()), len(there))

    def test_nobody_asks(self):
        for house in (PAIRS, CHAIN, WIDE):
            self.assertIs(is_away(house, (), ()), True)
            self.assertEqual(most_away(house, (), ()), 0)
            self.assertEqual(find_most_away(house, (), ()), ())
            self.assertTrue(is_limit_by_words(house, (), (), 0, find_limit(house, (), ())))

    def test_people_who_are_gone(self):
        self.assertIs(is_away(WIDE, (0,), (1,)), True)
        self.assertIs(is_away(WIDE, (0,), (1, 2)), False)
        self.assertIs(is_away(WIDE, (0, 3), (1,)), False)
        self.assertEqual(most_away(WIDE, (0,), (1, 2, 3)), 1)
        self.assertEqual(most_away(WIDE, (0, 3), (1, 2)), 0)
        self.assertEqual(limit_of(WIDE, (0,), (1, 2), (0, 1)), 1)

    def all_told(self, house, gone, some, family):
        case = (house, gone, some)
        within = [part for part in family if set(part) <= set(some)]
        most = max(len(part) for part in within)
        found = find_most_away(house, gone, some)
        self.assertIs(is_away(house, gone, some), some in family, case)
        self.assertEqual(most_away(house, gone, some), most, case)
        self.assertIn(found, within, case)
        self.assertEqual(len(found), most, case)
        posts = find_limit(house, gone, some)
        self.assertTrue(ascending_by_words(posts, len(house[1])), case)
        self.assertEqual(limit_by_words(house, gone, some, posts), most, case)
        self.assertIs(is_limit(house, gone, some, most, posts), True, case)
        self.assertIs(is_limit(house, gone, some, most - 1, posts), False, case)

    def test_small_houses_against_all_rosters(self):
        for house, gone, _ in fitting_cases():
            family = away_sets_by_trying(house, gone)
            for some in ascending_tuples(there_by_words(house, gone)):
                self.all_told(house, gone, some, family)

    def test_large_houses_against_all_rosters(self):
        chance = Random(34)
        sizes = []
        for house, gone in large_fitting_cases(250):
            if len(there_by_words(house, gone)) <= 7:
                family = away_sets_by_trying(house, gone)
                for part in (0.3, 0.7, 1):
                    some = tuple(p for p in some_of(chance, house[0], part) if p not in gone)
                    self.all_told(house, gone, some, family)
                    sizes.append(most_away(house, gone, some))
        self.assertGreater(len(sizes), 50)
        self.assertGreater(len(set(sizes)), 3)

    def test_large_houses_without_a_trial(self):
        # Whoever is told as away leaves a roster, and the limit shows that no more can be.
        chance = Random(55)
        for house, gone in large_fitting_cases(400):
            some = tuple(p for p in some_of(chance, house[0], chance.choice((0.3, 0.7, 1))) if p not in gone)
            found = find_most_away(house, gone, some)
            self.assertEqual(len(found), most_away(house, gone, some))
            self.assertTrue(set(found) <= set(some) and ascending_by_words(found, house[0]))
            self.assertIs(is_away(house, gone, found), True)
            self.assertIs(is_limit(house, gone, some, len(found), find_limit(house, gone, some)), True)

    def test_is_away_in_large_houses(self):
        chance = Random(89)
        told = []
        for house, gone in large_fitting_cases(150):
            if len(there_by_words(house, gone)) <= 8:
                some = tuple(p for p in some_of(chance, house[0], 0.25) if p not in gone)
                expected = rosters_by_trying(house, together(gone, some)) != []
                self.assertIs(is_away(house, gone, some), expected, (house, gone, some))
                told.append(expected)
        self.assertGreater(told.count(True), 5)
        self.assertGreater(told.count(False), 5)


class Limits(unittest.TestCase):
    def told(self, house, gone, some, number, value):
        expected = is_limit_by_words(house, gone, some, number, value)
        case = (house, gone, some, number, repr(value)[:200])
        self.assertIs(is_limit(house, gone, some, number, value), expected, case)

    def test_examples(self):
        self.assertEqual(limit_of(CHAIN, (), (1, 2), (1,)), 1)
        self.assertEqual(limit_of(CHAIN, (), (1, 2), (0,)), 2)
        self.assertIs(is_limit(CHAIN, (), (1, 2), 1, (0, 1, 2)), True)
        self.assertIs(is_limit(CHAIN, (), (1, 2), 1, ()), False)

    def test_the_empty_tuple(self):
        for some in ascending_tuples(range(4)):
            self.assertEqual(limit_of(CHAIN, (), some, ()), len(some))
            for number in range(-1, 6):
                self.assertIs(is_limit(CHAIN, (), some, number, ()), len(some) <= number)

    def test_all_tuples_of_posts(self):
        for house, gone, _ in fitting_cases():
            for some in ascending_tuples(there_by_words(house, gone)):
                for posts in ascending_tuples(range(len(house[1]))):
                    limit = limit_by_words(house, gone, some, posts)
                    self.assertEqual(limit_of(house, gone, some, posts), limit, (house, gone, some, posts))
                    self.assertIs(is_limit(house, gone, some, limit, posts), True)
                    self.assertIs(is_limit(house, gone, some, limit - 1, posts), False)

    def test_no_away_set_is_larger_than_a_limit(self):
        for house, gone, _ in fitting_cases((3, 2), (4, 1), (2, 2)):
            for away in away_sets_by_trying(house, gone):
                for posts in ascending_tuples(range(len(house[1]))):
                    self.assertLessEqual(len(away), limit_of(house, gone, away, posts))

    def test_tuples_that_are_no_set_of_posts(self):
        for size in range(5):
            for value in product(range(-1, 4), repeat=size):
                self.told(CHAIN, (), (1, 2), 2, value)
                self.told(CHAIN, (0,), (1, 3), 9, value)
        for value in ((1, 0), (1, 1), (3,), (-1,), (0, 1, 1)):
            self.assertIs(is_limit(CHAIN, (), (1, 2), 99, value), False)

    def test_other_kinds(self):
        for value in ([], [0], {}, {0: 1}, "", "0", 0, None, False, True, (False,), (0, True), ([0],), ((0,),), (None,)):
            self.assertIs(is_limit(CHAIN, (), (1, 2), 99, value), False, value)

    def test_variants(self):
        for posts in ascending_tuples(range(3)):
            for value in variants(posts):
                for number in (-9, 0, 1, 2, 9, 10 ** 60):
                    self.told(CHAIN, (), (1, 2), number, value)
                    self.told(CHAIN, (3,), (0, 2), number, value)

    def test_any_value(self):
        for house, gone, some in ((PAIRS, (0,), (1,)), (CHAIN, (), (1, 2)), (WIDE, (0,), (1, 2, 3)), ((2, ()), (), (0,))):
            for odd in odd_values():
                for value in (odd, (odd,), (odd, 1), (0, odd)):
                    self.told(house, gone, some, 1, value)
                    self.told(house, gone, some, 99, value)
