"""Stage 15, point [18]."""

import unittest
from itertools import combinations
from random import Random

from sparehands.fewskills import is_smallest_choice, needed_skills, smallest_skills
from tests.learning import chance_houses, good_by_words, missing_by_words
from tests.trying import CHAIN, PAIRS, WIDE, ascending_tuples, houses

ALONE = (3, ((0,), (0,)))
EMPTY = (3, ())


def parts(pairs):
    return [part for size in range(len(pairs) + 1) for part in combinations(pairs, size)]


def good_by_trying(house, f, pairs):
    return [part for part in parts(pairs) if good_by_words(house, f, part)]


def smallest_by_trying(house, f, pairs):
    """All good choices that have no other good one within them, ascending."""
    good = good_by_trying(house, f, pairs)
    return sorted(row for row in good if not any(set(other) < set(row) for other in good))


def small_houses():
    for people, posts in ((1, 0), (3, 0), (1, 1), (1, 3), (2, 1), (2, 2), (3, 1), (3, 2), (2, 3)):
        yield from houses(people, posts)


def cases():
    """All tuples of missing pairs of small houses, and some of larger ones, as (house, pairs)."""
    for house in small_houses():
        for pairs in ascending_tuples(missing_by_words(house)):
            yield house, pairs
    chance = Random(15)
    for house in [*chance_houses(60, 4, 6, 4), PAIRS, WIDE, CHAIN]:
        missing = missing_by_words(house)
        yield house, tuple(sorted(chance.sample(missing, min(6, len(missing)))))


class FewSkills(unittest.TestCase):
    def test_examples(self):
        pairs = ((0, 1), (0, 2), (1, 1))
        self.assertEqual(smallest_skills(ALONE, 0, pairs), [((0, 1),), ((0, 2),), ((1, 1),)])
        self.assertEqual(smallest_skills(ALONE, 1, pairs), [((0, 2), (1, 1))])
        self.assertEqual(needed_skills(ALONE, 1, pairs), [(0, 2), (1, 1)])
        self.assertIs(is_smallest_choice(ALONE, 0, ((0, 1),)), True)
        self.assertIs(is_smallest_choice(ALONE, 0, ((0, 1), (1, 1))), False)
        self.assertEqual(smallest_skills(PAIRS, 1, ((0, 2),)), [()])
        self.assertEqual(smallest_skills(ALONE, 3, ((0, 1),)), [])

    def test_no_posts(self):
        for f in range(4):
            self.assertEqual(smallest_skills(EMPTY, f, ()), [()])
            self.assertIs(is_smallest_choice(EMPTY, f, ()), True)
            self.assertEqual(needed_skills(EMPTY, f, ()), [])

    def test_no_pairs(self):
        for house in (PAIRS, WIDE, CHAIN, ALONE):
            for f in range(4):
                good = good_by_words(house, f, ())
                self.assertEqual(smallest_skills(house, f, ()), [()] if good else [])
                self.assertIs(is_smallest_choice(house, f, ()), good)
                self.assertEqual(needed_skills(house, f, ()), [])

    def test_no_good_choice(self):
        for pairs in (((0, 1),), ((0, 1), (0, 2)), ((0, 1), (0, 2), (1, 1), (1, 2))):
            for f in (2, 3):
                self.assertEqual(smallest_skills(ALONE, f, pairs), [])
                self.assertEqual(needed_skills(ALONE, f, pairs), list(pairs))
                self.assertIs(is_smallest_choice(ALONE, f, pairs), False)

    def test_what_stands_alone_needs_nothing(self):
        self.assertEqual(smallest_skills(PAIRS, 1, ((0, 2), (1, 0))), [()])
        self.assertEqual(needed_skills(PAIRS, 1, ((0, 2), (1, 0))), [])
        self.assertIs(is_smallest_choice(PAIRS, 1, ()), True)
        self.assertIs(is_smallest_choice(PAIRS, 1, ((0, 2),)), False)

    def test_ascending_order_of_tuples(self):
        # ((0, 1), (0, 2)) stands before ((1, 1),), although it has more pairs.
        house = (3, ((), (0,), (1, 2)))
        self.assertEqual(smallest_skills(house, 0, ((0, 0), (0, 1), (0, 2), (1, 1))), [((0, 0), (1, 1)), ((0, 1),), ((0, 2),)])

    def test_all_missing_pairs_as_a_choice(self):
        house = (6, ((), (), (), ()))
        self.assertIs(is_smallest_choice(house, 0, tuple(missing_by_words(house))), False)
        self.assertIs(is_smallest_choice(house, 0, ((0, 5), (1, 4), (2, 3), (3, 0))), True)
        self.assertIs(is_smallest_choice(house, 0, ((0, 5), (1, 4), (2, 3), (3, 3))), False)
        self.assertIs(is_smallest_choice((2, ((), ())), 0, ((0, 0), (0, 1), (1, 0), (1, 1))), False)

    def test_against_all_parts(self):
        told = {}
        for house, pairs in cases():
            for f in range(4):
                case = (house, f, pairs)
                smallest = smallest_by_trying(house, f, pairs)
                good = good_by_trying(house, f, pairs)
                self.assertEqual(smallest_skills(house, f, pairs), smallest, case)
                needed = [pair for pair in pairs if all(pair in row for row in good)]
                self.assertEqual(needed_skills(house, f, pairs), needed, case)
                key = (min(len(smallest), 3), 0 < len(needed) < len(pairs))
                told[key] = told.get(key, 0) + 1
        for key in ((0, False), (1, False), (2, False), (3, False), (1, True), (2, True)):
            self.assertGreater(told.get(key, 0), 3, key)

    def test_each_choice_against_all_parts(self):
        told = {True: 0, False: 0}
        for house, choice in cases():
            for f in range(4):
                found = is_smallest_choice(house, f, choice)
                self.assertIs(found, smallest_by_trying(house, f, choice) == [choice], (house, f, choice))
                told[found] += 1
        self.assertGreater(min(told.values()), 200)

    def test_somewhat_beyond_the_limits(self):
        house = (7, ((), ()))
        pairs = tuple((0, p) for p in range(7)) + ((1, 0),)
        expected = [((0, p), (1, 0)) for p in range(1, 7)]
        self.assertEqual(smallest_skills(house, 0, pairs), expected)
        self.assertEqual(needed_skills(house, 0, pairs), [(1, 0)])
