"""Stage 2, point [5]."""

import unittest
from itertools import product

from sparehands.rosters import all_rosters, find_roster, find_short, is_short
from tests.trying import (
    CHAIN,
    PAIRS,
    WIDE,
    ascending_tuples,
    large_cases,
    odd_values,
    roster_by_words,
    rosters_by_trying,
    short_by_words,
    small_cases,
)


class RosterOrShortSet(unittest.TestCase):
    def test_examples(self):
        self.assertEqual(find_roster(PAIRS, (1,)), (0, 2))
        self.assertIsNone(find_short(PAIRS, (1,)))
        self.assertIsNone(find_roster(PAIRS, (0, 1)))
        self.assertEqual(find_short((2, ((0,), (0,))), ()), (0, 1))

    def one_is_told(self, house, gone):
        """Whether it is a roster, after both answers were held against the words."""
        roster = find_roster(house, gone)
        short = find_short(house, gone)
        self.assertNotEqual(roster is None, short is None, (house, gone))
        if short is None:
            self.assertTrue(roster_by_words(house, gone, roster), (house, gone, roster))
        else:
            self.assertTrue(short_by_words(house, gone, short), (house, gone, short))
        return short is None

    def test_small_houses_against_all_rosters(self):
        for house, gone in small_cases():
            self.assertEqual(self.one_is_told(house, gone), rosters_by_trying(house, gone) != [], (house, gone))

    def test_all_rosters(self):
        for house, gone in small_cases():
            self.assertEqual(all_rosters(house, gone), rosters_by_trying(house, gone), (house, gone))

    def test_large_houses(self):
        told = [self.one_is_told(house, gone) for house, gone in large_cases(3000)]
        self.assertGreater(told.count(True), 500)
        self.assertGreater(told.count(False), 500)

    def test_at_the_limits(self):
        everybody = tuple(range(10))
        self.assertTrue(self.one_is_told((10, (everybody,) * 6), ()))
        self.assertTrue(self.one_is_told((10, (everybody,) * 6), (0, 2, 4, 6)))
        self.assertEqual(find_short((10, (everybody,) * 6), (0, 2, 4, 6, 8)), (0, 1, 2, 3, 4, 5))
        self.assertEqual(find_short((10, (everybody,) * 5 + ((),)), ()), (5,))
        self.assertEqual(find_roster((7, tuple((k, k + 1) for k in range(6))), (0,)), (1, 2, 3, 4, 5, 6))
        self.assertEqual(find_roster((7, tuple((k, k + 1) for k in range(6))), (6,)), (0, 1, 2, 3, 4, 5))

    def test_no_posts(self):
        for gone in ((), (1,), (0, 1, 2)):
            self.assertEqual(find_roster((3, ()), gone), ())
            self.assertIsNone(find_short((3, ()), gone))

    def test_somewhat_beyond_the_limits(self):
        everybody = tuple(range(14))
        self.assertTrue(self.one_is_told((14, (everybody,) * 9), (3, 5)))
        self.assertFalse(self.one_is_told((14, (everybody,) * 9), (0, 1, 2, 3, 4, 5)))


class ShortSets(unittest.TestCase):
    def told(self, house, gone, value, expected):
        self.assertIs(is_short(house, gone, value), expected, (house, gone, repr(value)[:200]))

    def test_examples(self):
        self.told(PAIRS, (0, 1), (0, 1), True)
        self.told(PAIRS, (0, 1), (1,), False)
        self.told(PAIRS, (), (), False)

    def test_all_tuples_of_posts(self):
        for house, gone in small_cases():
            for value in ascending_tuples(range(len(house[1]))):
                self.told(house, gone, value, short_by_words(house, gone, value))

    def test_tuples_that_are_no_set_of_posts(self):
        # All of these posts are short, so that only the form of the tuple decides.
        house, gone = (3, ((0, 1), (1, 2), (0, 2))), (0, 1, 2)
        for size in range(5):
            for value in product(range(-1, 4), repeat=size):
                self.told(house, gone, value, short_by_words(house, gone, value))
        self.told(house, gone, (0, 1, 2), True)
        self.told(house, gone, (1, 0), False)
        self.told(house, gone, (1, 1), False)
        self.told(house, gone, (0, 3), False)
        self.told(house, gone, (-1,), False)
        self.told(house, gone, (-1, 0), False)
        self.told(house, gone, (), False)

    def test_other_kinds(self):
        house, gone = (3, ((0, 1), (1, 2), (0, 2))), (0, 1, 2)
        for value in ([0], [0, 1], {0: 1}, "0", "01", 0, True, None, (True,), (False,), (0, True), (False, 1, 2), (None,)):
            self.told(house, gone, value, False)

    def test_any_value(self):
        for house, gone in ((CHAIN, (0, 1, 2, 3)), (CHAIN, ()), (PAIRS, (0, 1)), (WIDE, (1, 2, 3)), ((2, ()), ())):
            for odd in odd_values():
                for value in (odd, (odd,), (odd, 1), (0, odd)):
                    self.told(house, gone, value, short_by_words(house, gone, value))
