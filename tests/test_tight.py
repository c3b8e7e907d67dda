"""Stage 4, point [7]."""

import unittest
from itertools import product

from sparehands.tight import greatest_tight, is_reason, least_tight, needed_people, tight_sets
from tests.trying import (
    CHAIN,
    PAIRS,
    WIDE,
    ascending_tuples,
    fitting_cases,
    large_fitting_cases,
    odd_values,
    rosters_by_trying,
    there_by_words,
    tight_by_words,
    together,
    takers_by_words,
    variants,
)


def tight_by_trying(house, gone):
    return [posts for posts in ascending_tuples(range(len(house[1]))) if tight_by_words(house, gone, posts)]


class TightSets(unittest.TestCase):
    def test_examples(self):
        self.assertEqual(tight_sets(PAIRS, ()), [])
        self.assertEqual(tight_sets(PAIRS, (0,)), [(0,), (0, 1)])
        self.assertEqual(greatest_tight(PAIRS, (0,)), (0, 1))
        self.assertEqual(least_tight(PAIRS, (0,), 1), (0, 1))
        self.assertIsNone(least_tight(PAIRS, (), 1))
        self.assertEqual(needed_people(PAIRS, (0,)), [1, 2])
        self.assertEqual(needed_people(PAIRS, ()), [])

    def test_no_posts(self):
        for gone in ((), (1,), (0, 1, 2)):
            self.assertEqual(tight_sets((3, ()), gone), [])
            self.assertEqual(greatest_tight((3, ()), gone), ())
            self.assertEqual(needed_people((3, ()), gone), [])

    def test_everybody_gone_but_those_at_posts(self):
        house = (4, ((0, 1, 3), (0, 1, 3)))
        self.assertEqual(tight_sets(house, ()), [])
        self.assertEqual(tight_sets(house, (1,)), [(0, 1)])
        self.assertEqual(needed_people(house, (1, 2)), [0, 3])
        self.assertEqual(least_tight(house, (1, 2), 0), (0, 1))

    def test_ascending_order_of_tuples(self):
        # (0, 2) stands before (1,), although it has more posts.
        house = (4, ((0,), (1,), (2,)))
        self.assertEqual(tight_sets(house, ()), [(0,), (0, 1), (0, 1, 2), (0, 2), (1,), (1, 2), (2,)])
        self.assertEqual(greatest_tight((4, ((0,), (1, 2, 3), (3,))), ()), (0, 2))

    def all_told(self, house, gone):
        case = (house, gone)
        sets = tight_by_trying(house, gone)
        self.assertEqual(tight_sets(house, gone), sorted(sets), case)
        self.assertEqual(greatest_tight(house, gone), tuple(sorted({post for row in sets for post in row})), case)
        for post in range(len(house[1])):
            having = [row for row in sets if post in row]
            within_all = [row for row in having if all(set(row) <= set(other) for other in having)]
            self.assertEqual(len(within_all), min(len(having), 1), case)
            self.assertEqual(least_tight(house, gone, post), within_all[0] if within_all else None, case)

    def test_small_houses(self):
        for house, gone, _ in fitting_cases():
            self.all_told(house, gone)

    def test_large_houses(self):
        for house, gone in large_fitting_cases(300):
            self.all_told(house, gone)

    def test_needed_people_against_all_rosters(self):
        for house, gone, _ in fitting_cases():
            there = there_by_words(house, gone)
            needed = [person for person in there if not rosters_by_trying(house, together(gone, (person,)))]
            self.assertEqual(needed_people(house, gone), needed, (house, gone))

    def test_needed_people_of_large_houses(self):
        counted = []
        for house, gone in large_fitting_cases(60):
            there = there_by_words(house, gone)
            if len(there) <= 8:
                needed = [person for person in there if not rosters_by_trying(house, together(gone, (person,)))]
                self.assertEqual(needed_people(house, gone), needed, (house, gone))
                counted.append(len(needed))
        self.assertGreater(len([many for many in counted if many]), 5)
        self.assertIn(0, counted)

    def test_somewhat_beyond_the_limits(self):
        house = (12, tuple((k, k + 1) for k in range(8)))
        self.assertEqual(tight_sets(house, ()), [])
        self.assertEqual(tight_sets(house, (0,)), [tuple(range(k + 1)) for k in range(8)])
        self.assertEqual(needed_people(house, (0,)), [1, 2, 3, 4, 5, 6, 7, 8])


class Reasons(unittest.TestCase):
    def told(self, house, gone, person, value):
        expected = tight_by_words(house, gone, value) and person in takers_by_words(house, gone, value)
        self.assertIs(is_reason(house, gone, person, value), expected, (house, gone, person, repr(value)[:200]))

    def test_examples(self):
        self.assertIs(is_reason(PAIRS, (0,), 1, (0,)), True)
        self.assertIs(is_reason(PAIRS, (0,), 2, (0,)), False)

    def test_all_tuples_of_posts(self):
        for house, gone, _ in fitting_cases():
            for person in there_by_words(house, gone):
                for value in ascending_tuples(range(len(house[1]))):
                    self.told(house, gone, person, value)

    def test_tuples_that_are_no_set_of_posts(self):
        house = (4, ((0,), (1,), (2,)))
        for person in range(4):
            for size in range(4):
                for value in product(range(-1, 4), repeat=size):
                    self.told(house, (), person, value)
        self.assertIs(is_reason(house, (), 1, (0, 1)), True)
        self.assertIs(is_reason(house, (), 1, (1, 0)), False)
        self.assertIs(is_reason(house, (), 1, (1, 1)), False)
        self.assertIs(is_reason(house, (), 1, (1, 3)), False)
        self.assertIs(is_reason(house, (), 3, (0, 1, 2)), False)
        self.assertIs(is_reason(house, (), 1, ()), False)

    def test_other_kinds(self):
        for value in ([0], {0: 1}, "0", 0, None, False, (False,), ([0],), ((0,),), (0, True), (None,), ""):
            self.assertIs(is_reason(PAIRS, (0,), 1, value), False, value)

    def test_variants(self):
        for house, gone in ((PAIRS, (0,)), (CHAIN, (3,)), ((3, ((0,), (1,), (0, 1, 2))), ())):
            for person in there_by_words(house, gone):
                for posts in tight_sets(house, gone):
                    for value in variants(posts):
                        self.told(house, gone, person, value)

    def test_any_value(self):
        for house, gone in ((PAIRS, (0,)), (PAIRS, ()), (CHAIN, (3,)), (WIDE, (0, 1)), ((2, ()), ())):
            for person in there_by_words(house, gone):
                for odd in odd_values():
                    for value in (odd, (odd,), (odd, 1), (0, odd)):
                        self.told(house, gone, person, value)
