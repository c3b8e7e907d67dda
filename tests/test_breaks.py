"""Stage 9, point [12]."""

import unittest

from sparehands.breaks import breaks_with, is_break, least_break, smallest_breaks
from tests.trying import (
    CHAIN,
    PAIRS,
    WIDE,
    ascending_tuples,
    away_sets_by_trying,
    fitting_cases,
    large_fitting_cases,
    spare_by_words,
    there_by_words,
)


def breaks_by_trying(house, gone):
    """All breaks: the parts of the people after which no roster fits."""
    family = set(away_sets_by_trying(house, gone))
    return [part for part in ascending_tuples(there_by_words(house, gone)) if part not in family]


class Breaks(unittest.TestCase):
    def test_examples(self):
        self.assertEqual(smallest_breaks(PAIRS, ()), [(0, 1), (0, 2), (1, 2)])
        self.assertEqual(smallest_breaks(PAIRS, (0,)), [(1,), (2,)])
        self.assertEqual(least_break(PAIRS, ()), 2)
        self.assertEqual(least_break(CHAIN, (3,)), 1)
        self.assertIsNone(least_break((2, ()), ()))
        self.assertIs(is_break(WIDE, (), (0, 1)), False)
        self.assertIs(is_break(WIDE, (), (0, 1, 3)), True)
        self.assertEqual(breaks_with(WIDE, (), 3), [(0, 1, 3), (0, 2, 3), (1, 2, 3)])

    def test_no_posts(self):
        for gone in ascending_tuples(range(3)):
            self.assertEqual(smallest_breaks((3, ()), gone), [])
            self.assertIsNone(least_break((3, ()), gone))
            for person in there_by_words((3, ()), gone):
                self.assertEqual(breaks_with((3, ()), gone, person), [])
            for people in ascending_tuples(there_by_words((3, ()), gone)):
                self.assertIs(is_break((3, ()), gone, people), False)

    def test_everybody_drops_out(self):
        for house in (PAIRS, CHAIN, WIDE, (5, ((4,),))):
            self.assertIs(is_break(house, (), tuple(range(house[0]))), True)
            self.assertIs(is_break(house, (), ()), False)

    def test_ascending_order_of_tuples(self):
        # (0, 1, 2) stands before (3,), although it has more people.
        house = (5, ((0, 1, 2), (3,)))
        self.assertEqual(smallest_breaks(house, ()), [(0, 1, 2), (3,)])
        self.assertEqual(breaks_with(house, (), 1), [(0, 1, 2)])
        self.assertEqual(breaks_with(house, (), 4), [])
        self.assertEqual(least_break(house, ()), 1)

    def all_told(self, house, gone, each):
        case = (house, gone)
        breaks = breaks_by_trying(house, gone)
        parts = [set(people) for people in breaks]
        smallest = sorted(people for people in breaks if not any(part < set(people) for part in parts))
        self.assertEqual(smallest_breaks(house, gone), smallest, case)
        self.assertEqual(least_break(house, gone), min([len(people) for people in breaks], default=None), case)
        for person in there_by_words(house, gone):
            self.assertEqual(breaks_with(house, gone, person), [row for row in smallest if person in row], case)
        if each:
            for people in ascending_tuples(there_by_words(house, gone)):
                self.assertIs(is_break(house, gone, people), people in breaks, (case, people))

    def test_small_houses_against_all_parts_of_the_people(self):
        for house, gone, _ in fitting_cases():
            self.all_told(house, gone, True)

    def test_large_houses_against_all_parts_of_the_people(self):
        tried = 0
        for house, gone in large_fitting_cases(250):
            if len(there_by_words(house, gone)) <= 7:
                self.all_told(house, gone, False)
                tried += 1
        self.assertGreater(tried, 30)

    def test_least_break_is_the_least_spare_and_1(self):
        for house, gone in large_fitting_cases(300):
            sets = ascending_tuples(range(len(house[1])))[1:]
            self.assertEqual(least_break(house, gone), min(spare_by_words(house, gone, posts) for posts in sets) + 1)

    def test_at_the_limits(self):
        house = (10, (tuple(range(10)),) * 6)
        self.assertEqual(len(smallest_breaks(house, ())), 252)
        self.assertEqual(smallest_breaks(house, (0, 1, 2, 3)), [(4,), (5,), (6,), (7,), (8,), (9,)])
        self.assertEqual(least_break(house, ()), 5)
        self.assertEqual(len(breaks_with(house, (), 9)), 126)
        self.assertIs(is_break(house, (1, 2), (3, 4)), False)
        self.assertIs(is_break(house, (1, 2), (0, 3, 4)), True)
