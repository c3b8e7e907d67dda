"""Stage 16, point [19]."""

import unittest
from random import Random

from sparehands.counting import count_rosters, count_with, nth_roster, number_of
from tests.playing import fitting
from tests.trying import CHAIN, PAIRS, WIDE, ascending_tuples, large_cases, rosters_by_trying, small_cases

EMPTY = (3, ())
EVERYBODY = (10, (tuple(range(10)),) * 6)


class Counting(unittest.TestCase):
    def test_examples(self):
        self.assertEqual(count_rosters(PAIRS, ()), 3)
        self.assertEqual(nth_roster(PAIRS, (), 1), (0, 2))
        self.assertIsNone(nth_roster(PAIRS, (), 3))
        self.assertEqual(number_of(PAIRS, (), (1, 2)), 2)
        self.assertEqual(count_with(PAIRS, (), 0, 0), 2)
        self.assertEqual(count_with(PAIRS, (0,), 0, 0), 0)
        self.assertEqual(count_rosters(WIDE, ()), 12)
        self.assertEqual(count_rosters(EVERYBODY, ()), 151200)
        self.assertEqual(nth_roster(EVERYBODY, (), 151199), (9, 8, 7, 6, 5, 4))
        self.assertEqual(count_rosters((3, ()), (1,)), 1)

    def test_no_posts(self):
        for gone in ascending_tuples(range(3)):
            self.assertEqual(count_rosters(EMPTY, gone), 1)
            self.assertEqual(nth_roster(EMPTY, gone, 0), ())
            self.assertIsNone(nth_roster(EMPTY, gone, 1))
            self.assertEqual(number_of(EMPTY, gone, ()), 0)

    def test_no_roster_that_fits(self):
        for house, gone in ((PAIRS, (0, 1)), (CHAIN, (1, 2)), (WIDE, (0, 1, 3)), ((1, ((0,), (0,))), ()), ((2, ((), (0, 1))), ())):
            self.assertEqual(count_rosters(house, gone), 0)
            for i in (0, 1, 2, 1000, 10 ** 50):
                self.assertIsNone(nth_roster(house, gone, i))
            for post, able in enumerate(house[1]):
                for person in able:
                    self.assertEqual(count_with(house, gone, post, person), 0)

    def test_numbers_that_are_too_great(self):
        for i in (12, 13, 100, 10 ** 59):
            self.assertIsNone(nth_roster(WIDE, (), i))
        self.assertEqual(nth_roster(WIDE, (), 11), (3, 2))

    def test_the_person_is_gone(self):
        for house in (PAIRS, CHAIN, WIDE):
            for post, able in enumerate(house[1]):
                for person in able:
                    self.assertEqual(count_with(house, (person,), post, person), 0)

    def all_told(self, house, gone, rosters, numbers):
        case = (house, gone)
        self.assertEqual(count_rosters(house, gone), len(rosters), case)
        for i in numbers:
            self.assertEqual(nth_roster(house, gone, i), rosters[i], (case, i))
            self.assertEqual(number_of(house, gone, rosters[i]), i, case)
        for i in (len(rosters), len(rosters) + 1, 10 * len(rosters) + 7):
            self.assertIsNone(nth_roster(house, gone, i), (case, i))
        for post, able in enumerate(house[1]):
            for person in able:
                expected = len([roster for roster in rosters if roster[post] == person])
                self.assertEqual(count_with(house, gone, post, person), expected, (case, post, person))

    def test_small_houses_against_all_rosters(self):
        for house, gone in small_cases():
            rosters = fitting(house, gone)
            self.assertEqual(list(rosters), sorted(rosters))
            self.all_told(house, gone, rosters, range(len(rosters)))

    def test_large_houses_against_all_rosters(self):
        chance = Random(16)
        many = []
        for house, gone in large_cases(300):
            if house[0] <= 8:
                rosters = rosters_by_trying(house, gone)
                numbers = [0, len(rosters) - 1, chance.randrange(len(rosters)), chance.randrange(len(rosters))] if rosters else []
                self.all_told(house, gone, rosters, numbers)
                many.append(len(rosters))
        self.assertGreater(len([count for count in many if count > 100]), 10)
        self.assertGreater(many.count(0), 20)

    def test_at_the_limits(self):
        rosters = rosters_by_trying(EVERYBODY, (2, 7))
        self.all_told(EVERYBODY, (2, 7), rosters, (0, 1, 719, 720, 10000, len(rosters) - 1))
        self.assertEqual(len(rosters), 20160)
        for i in (0, 1, 5, 30240, 75600, 151198, 151199):
            self.assertEqual(number_of(EVERYBODY, (), nth_roster(EVERYBODY, (), i)), i)
        self.assertEqual(nth_roster(EVERYBODY, (), 0), (0, 1, 2, 3, 4, 5))
        self.assertIsNone(nth_roster(EVERYBODY, (), 151200))
        self.assertEqual(count_with(EVERYBODY, (), 5, 9), 15120)
        self.assertEqual(count_rosters(EVERYBODY, (0, 1, 2, 3)), 720)
        self.assertEqual(count_rosters(EVERYBODY, (0, 1, 2, 3, 4)), 0)
