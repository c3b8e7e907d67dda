"""Stage 3, point [6]."""

import unittest
from itertools import product

from sparehands.pairs import (
    find_need,
    find_obstacle,
    find_with,
    find_without,
    is_need,
    is_obstacle,
    possible_pairs,
    sure_pairs,
)
from sparehands.rosters import find_roster
from tests.trying import (
    CHAIN,
    PAIRS,
    WIDE,
    ascending_tuples,
    fitting_cases,
    large_cases,
    need_by_words,
    obstacle_by_words,
    odd_values,
    pairs_by_words,
    roster_by_words,
)


class Pairs(unittest.TestCase):
    def test_examples(self):
        self.assertEqual(possible_pairs(PAIRS, ()), [(0, 0), (0, 1), (1, 1), (1, 2)])
        self.assertEqual(sure_pairs(PAIRS, ()), [])
        self.assertEqual(possible_pairs(PAIRS, (0,)), [(0, 1), (1, 2)])
        self.assertEqual(sure_pairs(PAIRS, (0,)), [(0, 1), (1, 2)])
        self.assertEqual(find_with(PAIRS, (), 0, 1), (1, 2))
        self.assertEqual(find_obstacle(PAIRS, (0,), 1, 1), (0,))
        self.assertIsNone(find_without(PAIRS, (0,), 0, 1))
        self.assertEqual(find_need(PAIRS, (0,), 1, 2), (0, 1))

    def test_no_posts(self):
        for gone in ((), (1,), (0, 1, 2)):
            self.assertEqual(possible_pairs((3, ()), gone), [])
            self.assertEqual(sure_pairs((3, ()), gone), [])

    def test_lists_against_all_rosters(self):
        for house, gone, rosters in fitting_cases():
            pairs = pairs_by_words(house, gone)
            possible = [(k, p) for k, p in pairs if any(roster[k] == p for roster in rosters)]
            sure = [(k, p) for k, p in pairs if all(roster[k] == p for roster in rosters)]
            self.assertEqual(possible_pairs(house, gone), possible, (house, gone))
            self.assertEqual(sure_pairs(house, gone), sure, (house, gone))

    def with_is_told(self, house, gone, post, person):
        roster = find_with(house, gone, post, person)
        obstacle = find_obstacle(house, gone, post, person)
        case = (house, gone, post, person, roster, obstacle)
        self.assertNotEqual(roster is None, obstacle is None, case)
        if obstacle is None:
            self.assertTrue(roster_by_words(house, gone, roster) and roster[post] == person, case)
        else:
            self.assertTrue(obstacle_by_words(house, gone, post, person, obstacle), case)
        return obstacle is None

    def without_is_told(self, house, gone, post, person):
        roster = find_without(house, gone, post, person)
        need = find_need(house, gone, post, person)
        case = (house, gone, post, person, roster, need)
        self.assertNotEqual(roster is None, need is None, case)
        if need is None:
            self.assertTrue(roster_by_words(house, gone, roster) and roster[post] != person, case)
        else:
            self.assertTrue(need_by_words(house, gone, post, person, need), case)
        return need is None

    def test_each_pair_of_small_houses(self):
        for house, gone, rosters in fitting_cases():
            for post, person in pairs_by_words(house, gone):
                has = [roster[post] == person for roster in rosters]
                self.assertEqual(self.with_is_told(house, gone, post, person), any(has), (house, gone, post, person))
                self.assertEqual(self.without_is_told(house, gone, post, person), not all(has), (house, gone, post, person))

    def test_each_pair_of_large_houses(self):
        told = []
        for house, gone in large_cases(1000):
            if find_roster(house, gone) is not None:
                possible, sure = [], []
                for post, person in pairs_by_words(house, gone):
                    if self.with_is_told(house, gone, post, person):
                        possible.append((post, person))
                    if not self.without_is_told(house, gone, post, person):
                        sure.append((post, person))
                self.assertEqual(possible_pairs(house, gone), possible)
                self.assertEqual(sure_pairs(house, gone), sure)
                told.append((len(sure), len(pairs_by_words(house, gone)) - len(possible)))
        self.assertGreater(len([sure for sure, _ in told if sure]), 50)
        self.assertGreater(len([out for _, out in told if out]), 50)


class Papers(unittest.TestCase):
    def told(self, house, gone, post, person, value):
        case = (house, gone, post, person, repr(value)[:200])
        self.assertIs(
            is_obstacle(house, gone, post, person, value), obstacle_by_words(house, gone, post, person, value), case)
        self.assertIs(is_need(house, gone, post, person, value), need_by_words(house, gone, post, person, value), case)

    def test_examples(self):
        self.assertIs(is_obstacle(PAIRS, (0,), 1, 1, (0,)), True)
        self.assertIs(is_obstacle(PAIRS, (), 1, 1, (0,)), False)
        self.assertIs(is_need(PAIRS, (0,), 0, 1, (0,)), True)
        self.assertIs(is_need(PAIRS, (0,), 0, 1, (0, 1)), False)

    def test_all_tuples_of_posts(self):
        for house, gone, _ in fitting_cases():
            for post, person in pairs_by_words(house, gone):
                for value in ascending_tuples(range(len(house[1]))):
                    self.told(house, gone, post, person, value)

    def test_the_post_of_the_pair(self):
        # Without person 1 the posts 1 and 2 are one person short, but an obstacle has other posts only.
        house = (3, ((0, 1), (1, 2), (2,)))
        self.assertIs(is_obstacle(house, (), 0, 1, (1, 2)), True)
        self.assertIs(is_obstacle(house, (), 1, 1, (1, 2)), False)
        self.assertIs(is_need(house, (), 1, 1, (1, 2)), True)

    def test_tuples_that_are_no_set_of_posts(self):
        for house, gone in ((PAIRS, (0,)), (CHAIN, (0,)), ((3, ((0,), (1,), (2,))), ())):
            for post, person in pairs_by_words(house, gone):
                for size in range(4):
                    for value in product(range(-1, len(house[1]) + 1), repeat=size):
                        self.told(house, gone, post, person, value)

    def test_other_kinds(self):
        for value in ([0], {0: 1}, "0", 0, None, False, (False,), ([0],), ((0,),)):
            self.assertIs(is_obstacle(PAIRS, (0,), 1, 1, value), False, value)
            self.assertIs(is_need(PAIRS, (0,), 0, 1, value), False, value)

    def test_any_value(self):
        for house, gone in ((PAIRS, (0,)), (PAIRS, ()), (CHAIN, (3,)), (WIDE, (0, 1))):
            for post, person in pairs_by_words(house, gone):
                for odd in odd_values():
                    for value in (odd, (odd,), (odd, 1), (0, odd)):
                        self.told(house, gone, post, person, value)
