"""Stage 7, point [10]."""

import unittest
from itertools import product
from random import Random

from sparehands.wishes import (
    find_ceiling,
    find_heaviest,
    heaviest_weight,
    height_of,
    is_ceiling,
    levels_of,
)
from tests.trying import (
    CHAIN,
    PAIRS,
    WIDE,
    ascending_by_words,
    ascending_tuples,
    away_sets_by_trying,
    ceiling_by_words,
    fitting_cases,
    height_by_words,
    large_fitting_cases,
    levels_by_words,
    odd_values,
    rosters_by_steps,
    there_by_words,
    together,
    variants,
)

DAYS = (1, 5, 4, 2)


def some_wishes(chance, house, most):
    return tuple(chance.randint(0, most) for _ in range(house[0]))


def weight(wishes, people):
    return sum(wishes[person] for person in people)


class Heaviest(unittest.TestCase):
    def test_examples(self):
        self.assertEqual(levels_of(CHAIN, (), DAYS), [5, 4, 2, 1])
        self.assertEqual(heaviest_weight(CHAIN, (), DAYS), 5)
        self.assertEqual(find_heaviest(CHAIN, (), DAYS), (1,))
        self.assertEqual(heaviest_weight(WIDE, (), DAYS), 9)
        self.assertEqual(find_heaviest(WIDE, (), DAYS), (1, 2))

    def test_levels(self):
        self.assertEqual(levels_of(CHAIN, (), (0, 0, 0, 0)), [])
        self.assertEqual(levels_of(CHAIN, (), (3, 3, 0, 3)), [3])
        self.assertEqual(levels_of(CHAIN, (), (99, 0, 1, 99)), [99, 1])
        self.assertEqual(levels_of(CHAIN, (0,), (99, 0, 1, 5)), [5, 1])
        self.assertEqual(levels_of(CHAIN, (0, 1, 2, 3), (99, 0, 1, 5)), [])
        chance = Random(2)
        for house, gone, _ in fitting_cases():
            wishes = some_wishes(chance, house, 3)
            self.assertEqual(levels_of(house, gone, wishes), levels_by_words(house, gone, wishes))

    def test_no_posts(self):
        wishes = (4, 0, 7)
        for gone in ascending_tuples(range(3)):
            there = there_by_words((3, ()), gone)
            heaviest = find_heaviest((3, ()), gone, wishes)
            self.assertEqual(heaviest_weight((3, ()), gone, wishes), weight(wishes, there))
            self.assertTrue(ascending_by_words(heaviest, 3) and set(heaviest) <= set(there))
            self.assertEqual(weight(wishes, heaviest), weight(wishes, there))
            self.assertEqual(find_ceiling((3, ()), gone, wishes), ((),) * len(levels_of((3, ()), gone, wishes)))

    def test_wishes_of_0(self):
        for house in (PAIRS, CHAIN, WIDE):
            wishes = (0,) * house[0]
            self.assertEqual(heaviest_weight(house, (), wishes), 0)
            self.assertIn(find_heaviest(house, (), wishes), away_sets_by_trying(house, ()))
            self.assertEqual(find_ceiling(house, (), wishes), ())
            self.assertEqual(height_of(house, (), wishes, ()), 0)
            self.assertIs(is_ceiling(house, (), wishes, 0, ()), True)
            self.assertIs(is_ceiling(house, (), wishes, -1, ()), False)

    def all_told(self, house, gone, wishes, family):
        case = (house, gone, wishes)
        most = max(weight(wishes, part) for part in family)
        heaviest = find_heaviest(house, gone, wishes)
        ceiling = find_ceiling(house, gone, wishes)
        self.assertEqual(heaviest_weight(house, gone, wishes), most, case)
        self.assertIn(heaviest, family, case)
        self.assertEqual(weight(wishes, heaviest), most, case)
        self.assertTrue(ceiling_by_words(house, gone, wishes, most, ceiling), (case, ceiling))
        self.assertEqual(height_by_words(house, gone, wishes, ceiling), most, (case, ceiling))
        self.assertEqual(height_of(house, gone, wishes, ceiling), most, (case, ceiling))
        self.assertIs(is_ceiling(house, gone, wishes, most, ceiling), True, (case, ceiling))
        self.assertIs(is_ceiling(house, gone, wishes, most - 1, ceiling), False, (case, ceiling))

    def test_small_houses_against_all_rosters(self):
        chance = Random(3)
        for house, gone, _ in fitting_cases():
            family = set(away_sets_by_trying(house, gone))
            for most in (1, 3, 99):
                self.all_told(house, gone, some_wishes(chance, house, most), family)

    def test_all_small_wishes(self):
        for house, gone in ((PAIRS, ()), (PAIRS, (0,)), (CHAIN, ()), (CHAIN, (3,)), (WIDE, ()), (WIDE, (2,)), ((2, ()), ())):
            family = set(away_sets_by_trying(house, gone))
            for wishes in product(range(4), repeat=house[0]):
                self.all_told(house, gone, wishes, family)

    def test_large_houses_against_all_rosters(self):
        chance = Random(5)
        weights = []
        for house, gone in large_fitting_cases(250):
            if len(there_by_words(house, gone)) <= 7:
                family = set(away_sets_by_trying(house, gone))
                for most in (2, 99):
                    wishes = some_wishes(chance, house, most)
                    self.all_told(house, gone, wishes, family)
                    weights.append(heaviest_weight(house, gone, wishes))
        self.assertGreater(len(set(weights)), 20)

    def test_large_houses_without_a_trial(self):
        # Whoever is told as away leaves a roster, and the ceiling shows that no away set weighs more.
        chance = Random(7)
        for house, gone in large_fitting_cases(300):
            wishes = some_wishes(chance, house, chance.choice((1, 9, 99)))
            heaviest = find_heaviest(house, gone, wishes)
            self.assertTrue(ascending_by_words(heaviest, house[0]) and not set(heaviest) & set(gone))
            self.assertTrue(any(True for _ in rosters_by_steps(house, together(gone, heaviest), ())))
            self.assertEqual(weight(wishes, heaviest), heaviest_weight(house, gone, wishes))
            ceiling = find_ceiling(house, gone, wishes)
            self.assertTrue(ceiling_by_words(house, gone, wishes, weight(wishes, heaviest), ceiling))


class Ceilings(unittest.TestCase):
    def told(self, house, gone, wishes, number, value):
        expected = ceiling_by_words(house, gone, wishes, number, value)
        case = (house, gone, wishes, number, repr(value)[:200])
        self.assertIs(is_ceiling(house, gone, wishes, number, value), expected, case)
        return expected

    def test_examples(self):
        ceiling = ((), (1,), (1, 2), (0, 1, 2))
        self.assertEqual(height_of(CHAIN, (), DAYS, ceiling), 5)
        self.assertIs(is_ceiling(CHAIN, (), DAYS, 4, ceiling), False)
        self.assertIs(is_ceiling(CHAIN, (), DAYS, 5, ceiling), True)
        self.assertIs(is_ceiling(CHAIN, (), DAYS, 5, ceiling[:3]), False)

    def test_all_ceilings(self):
        for house, gone, wishes in ((PAIRS, (), (2, 5, 2)), (PAIRS, (0,), (9, 4, 1)), (WIDE, (), (3, 0, 3, 8))):
            levels = levels_by_words(house, gone, wishes)
            for ceiling in product(ascending_tuples(range(len(house[1]))), repeat=len(levels)):
                height = height_by_words(house, gone, wishes, ceiling)
                self.assertEqual(height_of(house, gone, wishes, ceiling), height)
                for number in (height - 1, height, height + 1, 0, 99):
                    self.told(house, gone, wishes, number, ceiling)

    def test_heights_of_other_houses(self):
        chance = Random(11)
        for house, gone, _ in fitting_cases():
            wishes = some_wishes(chance, house, 5)
            sets = ascending_tuples(range(len(house[1])))
            ceiling = tuple(chance.choice(sets) for _ in levels_by_words(house, gone, wishes))
            height = height_by_words(house, gone, wishes, ceiling)
            self.assertEqual(height_of(house, gone, wishes, ceiling), height)
            self.assertIs(is_ceiling(house, gone, wishes, height, ceiling), True)
            self.assertIs(is_ceiling(house, gone, wishes, height - 1, ceiling), False)

    def test_no_away_set_weighs_more(self):
        chance = Random(17)
        for house, gone, _ in fitting_cases((3, 2), (4, 1), (2, 2)):
            wishes = some_wishes(chance, house, 5)
            sets = ascending_tuples(range(len(house[1])))
            for away in away_sets_by_trying(house, gone):
                ceiling = tuple(chance.choice(sets) for _ in levels_by_words(house, gone, wishes))
                self.assertLessEqual(weight(wishes, away), height_of(house, gone, wishes, ceiling))

    def test_tuples_that_are_no_ceiling(self):
        for value in (
                (), ((),), ((),) * 3, ((),) * 5, ((), (), (), (3,)), ((), (), (), (-1,)), ((), (), (1, 0), ()),
                ((), (), (1, 1), ()), ((), (), (), 0), ((), (), (), None), ((), (), (), [0]), [(), (), (), ()],
                ((), (), (), (False,)), ((), (), (), (0, True)), ((), (), (), "0"), ((), (), (), {}), {0: ()}, None, ""):
            self.assertIs(is_ceiling(CHAIN, (), DAYS, 999, value), False, value)
        self.assertIs(is_ceiling(CHAIN, (), DAYS, 999, ((),) * 4), True)

    def test_variants(self):
        right = 0
        for house, gone, wishes in (
                (CHAIN, (), DAYS), (CHAIN, (1,), DAYS), (WIDE, (), (3, 3, 0, 1)), (PAIRS, (), (0, 0, 7)),
                (PAIRS, (), (0, 0, 0)), ((2, ()), (0,), (5, 6))):
            most = heaviest_weight(house, gone, wishes)
            for value in variants(find_ceiling(house, gone, wishes)):
                for number in (most - 1, most, most + 3, 10 ** 60):
                    right += self.told(house, gone, wishes, number, value)
        self.assertGreater(right, 10)

    def test_any_value(self):
        for odd in odd_values():
            for value in (odd, (odd,), (odd, odd), ((), odd), ((), (1,), (odd,), ()), ((), (), odd, ())):
                self.told(CHAIN, (), DAYS, 999, value)
                self.told(PAIRS, (), (0, 5, 5), 999, value)
                self.told(PAIRS, (), (0, 5, 6), 999, value)
                self.told((2, ()), (), (0, 0), 999, value)
                self.told((2, ()), (), (1, 0), 999, value)
