"""Stage 8, point [11]."""

import unittest
from itertools import product

from sparehands.spares import find_narrow, find_plan, is_narrow, is_plan, least_spare
from tests.trying import (
    CHAIN,
    PAIRS,
    WIDE,
    ascending_tuples,
    large_cases,
    narrow_by_words,
    odd_values,
    plan_by_words,
    small_cases,
    spare_by_words,
    stands_by_trying,
    variants,
)


class PlanOrNarrowSet(unittest.TestCase):
    def test_examples(self):
        cases = [(CHAIN, ()), (WIDE, ()), (WIDE, (0,)), (PAIRS, (1,)), (PAIRS, (0, 1)), ((1, ()), ())]
        self.assertEqual([least_spare(house, gone) for house, gone in cases], [1, 2, 1, 0, -1, None])
        self.assertIsNone(find_narrow(CHAIN, (), 1))
        self.assertIsNone(find_plan(CHAIN, (), 2))

    def test_no_posts(self):
        for gone in ((), (1,), (0, 1, 2)):
            self.assertIsNone(least_spare((3, ()), gone))
            for f in range(10):
                self.assertEqual(find_plan((3, ()), gone, f), ())
                self.assertIsNone(find_narrow((3, ()), gone, f))

    def test_nobody_can_take_a_post(self):
        for house, gone in (((3, ((), (0, 1))), ()), (PAIRS, (0, 1, 2)), ((2, ((),)), ())):
            self.assertLess(least_spare(house, gone), 0)
            for f in range(10):
                self.assertIsNone(find_plan(house, gone, f))
                self.assertTrue(narrow_by_words(house, gone, f, find_narrow(house, gone, f)))

    def test_least_spare(self):
        for house, gone in list(small_cases()) + list(large_cases(200)):
            sets = ascending_tuples(range(len(house[1])))[1:]
            least = min([spare_by_words(house, gone, posts) for posts in sets], default=None)
            self.assertEqual(least_spare(house, gone), least, (house, gone))

    def one_is_told(self, house, gone, f):
        """Whether it is a plan, after both answers were held against the words."""
        case = (house, gone, f)
        plan = find_plan(house, gone, f)
        narrow = find_narrow(house, gone, f)
        self.assertNotEqual(plan is None, narrow is None, case)
        if narrow is None:
            self.assertTrue(plan_by_words(house, gone, f, plan), (case, plan))
            self.assertIs(is_plan(house, gone, f, plan), True, (case, plan))
        else:
            self.assertTrue(narrow_by_words(house, gone, f, narrow), (case, narrow))
            self.assertIs(is_narrow(house, gone, f, narrow), True, (case, narrow))
        return narrow is None

    def test_small_houses_against_all_dropouts(self):
        for house, gone in small_cases():
            for f in range(4):
                self.assertEqual(self.one_is_told(house, gone, f), stands_by_trying(house, gone, f), (house, gone, f))

    def test_each_f_against_all_dropouts(self):
        told = []
        for house, gone in large_cases(150):
            for f in range(10):
                told.append(self.one_is_told(house, gone, f))
                if house[0] <= 7:
                    self.assertEqual(told[-1], stands_by_trying(house, gone, f), (house, gone, f))
        self.assertGreater(told.count(True), 50)
        self.assertGreater(told.count(False), 50)

    def test_large_houses(self):
        told = [self.one_is_told(house, gone, f) for house, gone in large_cases(1000) for f in (0, 1, 2, 4)]
        self.assertGreater(told.count(True), 200)
        self.assertGreater(told.count(False), 200)

    def test_at_the_limits(self):
        everybody = tuple(range(10))
        for many in range(1, 7):
            house = (10, (everybody,) * many)
            self.assertEqual(least_spare(house, ()), 10 - many)
            for f in range(10):
                self.assertEqual(self.one_is_told(house, (), f), f <= 10 - many)
        self.assertTrue(self.one_is_told((10, (everybody,)), (), 9))
        self.assertFalse(self.one_is_told((10, (everybody,)), (4,), 9))
        self.assertFalse(self.one_is_told((10, (everybody,) * 2), (), 9))

    def test_somewhat_beyond_the_limits(self):
        everybody = tuple(range(14))
        self.assertTrue(self.one_is_told((14, (everybody,) * 3), (), 11))
        self.assertFalse(self.one_is_told((14, (everybody,) * 3), (0,), 11))
        self.assertFalse(self.one_is_told((14, (everybody,) * 8), (), 11))


class Plans(unittest.TestCase):
    def told(self, house, gone, f, value):
        expected = plan_by_words(house, gone, f, value)
        self.assertIs(is_plan(house, gone, f, value), expected, (house, gone, f, repr(value)[:200]))
        return expected

    def test_examples(self):
        self.assertIs(is_plan(PAIRS, (), 1, (((0, 1), (2,)), ((0, 1), (2,)))), False)
        self.assertIs(is_plan(PAIRS, (), 1, (((0, 2), (1,)), ((0, 1), (2,)))), True)

    def test_no_posts(self):
        for f in range(10):
            self.assertIs(is_plan((3, ()), (1,), f, ()), True)
            for value in ([], {}, "", None, False, 0, ((),), (((), ()),)):
                self.assertIs(is_plan((3, ()), (1,), f, value), False)

    def test_parts_that_are_wrong(self):
        for f, value, expected in (
            (2, (((0, 1), (2, 3)), ((2, 3), (0, 1))), True),
            (1, (((0, 1), (2,)), ((0, 1), (3,))), True),
            (0, (((0, 1), ()), ((3, 2), ())), True),
            (1, (((0, 1), (2, 3)), ((2, 3), (0, 1))), False),  # too many further people
            (3, (((0, 1), (2, 3)), ((2, 3), (0, 1))), False),  # too few
            (2, (((0, 1), (3, 2)), ((2, 3), (0, 1))), False),  # not ascending
            (2, (((0, 1), (2, 2)), ((2, 3), (0, 1))), False),  # the same one twice
            (2, (((0, 1), (1, 2)), ((2, 3), (0, 1))), False),  # in the roster
            (2, (((0, 1), (2, 4)), ((2, 3), (0, 1))), False),  # no person
            (2, (((0, 1), (-1, 2)), ((2, 3), (0, 1))), False),
            (2, (((0, 0), (2, 3)), ((2, 3), (0, 1))), False),  # no roster
            (2, (((0, 1), (2, 3)), ((2, 3), (0, 1)), ((2, 3), (0, 1))), False),  # too many parts
            (2, (((0, 1), (2, 3)),), False),
            (2, (((0, 1), (2, 3)), ((2, 3), (0, 1), ())), False),
            (2, (((0, 1), (2, 3)), ((2, 3),)), False),
            (2, [((0, 1), (2, 3)), ((2, 3), (0, 1))], False),
            (2, ([(0, 1), (2, 3)], ((2, 3), (0, 1))), False),
            (2, (([0, 1], (2, 3)), ((2, 3), (0, 1))), False),
            (2, (((0, 1), [2, 3]), ((2, 3), (0, 1))), False),
            (2, (((False, 1), (2, 3)), ((2, 3), (0, 1))), False),
            (2, (((0, 1), (2, 3)), ((2, 3), (0, True))), False),
        ):
            self.assertIs(is_plan(WIDE, (), f, value), expected, (f, value))
            self.told(WIDE, (), f, value)

    def test_people_who_are_gone(self):
        plan = (((1, 2), (3,)), ((1, 2), (3,)))
        self.assertIs(is_plan(WIDE, (0,), 1, plan), True)
        self.assertIs(is_plan(WIDE, (1,), 1, plan), False)
        self.assertIs(is_plan(WIDE, (3,), 1, plan), False)

    def test_further_people_have_to_take_just_that_post(self):
        # Person 2 can take post 1 only.
        self.assertIs(is_plan(PAIRS, (), 1, (((0, 1), (2,)), ((0, 1), (2,)))), False)
        self.assertIs(is_plan(PAIRS, (), 1, (((0, 2), (1,)), ((0, 2), (1,)))), True)

    def test_variants(self):
        right = 0
        for house, gone, f in ((PAIRS, (), 1), (PAIRS, (1,), 0), (WIDE, (), 2), (WIDE, (0,), 1), (CHAIN, (), 1)):
            for value in variants(find_plan(house, gone, f)):
                right += self.told(house, gone, f, value)
                self.told(house, gone, f + 1, value)
                self.told(house, (), f, value)
        self.assertGreater(right, 5)

    def test_any_value(self):
        good = ((0, 1), (2,))
        for odd in odd_values():
            for value in (odd, (odd, good), (good, odd), ((odd, (2,)), good), (good, ((0, 1), odd)), (good, (odd, odd))):
                for f in (0, 1, 2):
                    self.told(WIDE, (), f, value)
                    self.told(PAIRS, (1,), f, value)
                    self.told((2, ()), (), f, value)


class NarrowSets(unittest.TestCase):
    def told(self, house, gone, f, value):
        expected = narrow_by_words(house, gone, f, value)
        self.assertIs(is_narrow(house, gone, f, value), expected, (house, gone, f, repr(value)[:200]))

    def test_examples(self):
        self.assertIs(is_narrow(CHAIN, (), 2, (0, 1, 2)), True)

    def test_all_tuples_of_posts(self):
        for house, gone in small_cases():
            for value in ascending_tuples(range(len(house[1]))):
                for f in range(4):
                    self.told(house, gone, f, value)

    def test_each_f(self):
        for f in range(10):
            self.assertIs(is_narrow(WIDE, (), f, (0,)), 3 < f)
            self.assertIs(is_narrow(WIDE, (), f, (0, 1)), 2 < f)
            self.assertIs(is_narrow(WIDE, (0, 1, 2), f, (0, 1)), True)
            self.assertIs(is_narrow(WIDE, (), f, ()), False)

    def test_tuples_that_are_no_set_of_posts(self):
        for size in range(5):
            for value in product(range(-1, 4), repeat=size):
                self.told(CHAIN, (), 9, value)
                self.told(CHAIN, (0, 1), 0, value)

    def test_other_kinds(self):
        for value in ([0], {0: 1}, "0", 0, None, False, True, (False,), (0, True), ([0],), ((0,),), (None,), [], {}, ""):
            self.assertIs(is_narrow(CHAIN, (), 9, value), False, value)

    def test_any_value(self):
        for house, gone in ((PAIRS, (0,)), (CHAIN, (0, 1)), (WIDE, (0, 1, 2)), ((2, ()), ())):
            for odd in odd_values():
                for value in (odd, (odd,), (odd, 1), (0, odd)):
                    for f in (0, 1, 9):
                        self.told(house, gone, f, value)
