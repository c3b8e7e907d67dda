"""Stage 5, point [8]."""

import unittest
from random import Random

from sparehands.cheapest import cost_of, find_cheapest, find_prices, is_cost_bound, least_roster_cost
from tests.trying import (
    CHAIN,
    PAIRS,
    WIDE,
    cases,
    cost_bound_by_words,
    cost_by_words,
    large_cases,
    odd_values,
    roster_by_words,
    rosters_by_trying,
    small_cases,
    variants,
)

COSTS = ((1, 5), (2, 9))


def some_costs(chance, house, most):
    return tuple(tuple(chance.randint(0, most) for _ in post) for post in house[1])


class Cheapest(unittest.TestCase):
    def test_examples(self):
        self.assertEqual(cost_of(PAIRS, COSTS, (0, 1)), 3)
        self.assertEqual(least_roster_cost(PAIRS, (), COSTS), 3)
        self.assertEqual(find_cheapest(PAIRS, (), COSTS), (0, 1))
        self.assertEqual(find_cheapest(PAIRS, (0,), COSTS), (1, 2))
        self.assertIsNone(least_roster_cost(PAIRS, (0, 1), COSTS))

    def test_no_posts(self):
        for gone in ((), (1,), (0, 1, 2)):
            self.assertEqual(cost_of((3, ()), (), ()), 0)
            self.assertEqual(least_roster_cost((3, ()), gone, ()), 0)
            self.assertEqual(find_cheapest((3, ()), gone, ()), ())
            prices = find_prices((3, ()), gone, ())
            self.assertTrue(cost_bound_by_words((3, ()), gone, (), 0, prices), prices)

    def test_cost_of_each_roster(self):
        chance = Random(5)
        for house, gone in small_cases():
            costs = some_costs(chance, house, 99)
            for roster in rosters_by_trying(house, gone):
                self.assertEqual(cost_of(house, costs, roster), cost_by_words(house, costs, roster))
        self.assertEqual(cost_of((9, ((3, 5, 8), (1, 3))), ((7, 20, 99), (0, 41)), (8, 3)), 140)

    def both_told(self, house, gone, costs, rosters):
        """Whether there is a roster, after both answers were held against the words and all rosters."""
        case = (house, gone, costs)
        found = find_cheapest(house, gone, costs)
        prices = find_prices(house, gone, costs)
        least = min([cost_by_words(house, costs, roster) for roster in rosters], default=None)
        self.assertEqual(least_roster_cost(house, gone, costs), least, case)
        if least is None:
            self.assertIsNone(found, case)
            self.assertIsNone(prices, case)
            return False
        self.assertTrue(roster_by_words(house, gone, found), case)
        self.assertEqual(cost_by_words(house, costs, found), least, case)
        self.assertTrue(cost_bound_by_words(house, gone, costs, least, prices), (case, prices))
        self.assertFalse(cost_bound_by_words(house, gone, costs, least + 1, prices), (case, prices))
        self.assertIs(is_cost_bound(house, gone, costs, least, prices), True, case)
        self.assertIs(is_cost_bound(house, gone, costs, least + 1, prices), False, case)
        return True

    def test_small_houses_against_all_rosters(self):
        chance = Random(8)
        for most in (0, 1, 3, 99):
            for house, gone in small_cases():
                rosters = rosters_by_trying(house, gone)
                self.assertEqual(self.both_told(house, gone, some_costs(chance, house, most), rosters), rosters != [])

    def test_large_houses_against_all_rosters(self):
        chance = Random(13)
        told = []
        for house, gone in large_cases(400):
            if house[0] <= 8 or len(house[1]) <= 4:
                rosters = rosters_by_trying(house, gone)
                costs = some_costs(chance, house, chance.choice((2, 10, 99)))
                told.append(self.both_told(house, gone, costs, rosters))
        self.assertGreater(told.count(True), 50)
        self.assertGreater(told.count(False), 50)

    def test_at_the_limits(self):
        everybody = tuple(range(10))
        house = (10, (everybody,) * 6)
        costs = tuple(tuple((17 * k + 31 * p + 5 * k * p) % 100 for p in everybody) for k in range(6))
        self.assertTrue(self.both_told(house, (), costs, rosters_by_trying(house, ())))
        self.assertTrue(self.both_told(house, (0, 3, 5, 9), costs, rosters_by_trying(house, (0, 3, 5, 9))))
        self.assertFalse(self.both_told(house, (0, 3, 5, 7, 9), costs, []))
        self.assertTrue(self.both_told(house, (), ((99,) * 10,) * 6, [(0, 1, 2, 3, 4, 5)]))

    def test_somewhat_beyond_the_limits(self):
        everybody = tuple(range(12))
        costs = tuple(tuple(1000 * (p - k) ** 2 for p in everybody) for k in range(7))
        self.assertEqual(find_cheapest((12, (everybody,) * 7), (), costs), (0, 1, 2, 3, 4, 5, 6))
        self.assertEqual(least_roster_cost((12, (everybody,) * 7), (6,), costs), 1000)


class CostBounds(unittest.TestCase):
    def told(self, house, gone, costs, number, value):
        expected = cost_bound_by_words(house, gone, costs, number, value)
        case = (house, gone, costs, number, repr(value)[:200])
        self.assertIs(is_cost_bound(house, gone, costs, number, value), expected, case)

    def test_examples(self):
        self.assertIs(is_cost_bound(PAIRS, (0,), COSTS, 14, ((12, 9), (0, 7, 0))), True)
        self.assertIs(is_cost_bound(PAIRS, (0,), COSTS, 15, ((12, 9), (0, 7, 0))), False)
        self.assertIs(is_cost_bound(PAIRS, (), COSTS, 3, ((1, 2), (0, 0, 0))), True)

    def test_prices_of_people_who_are_gone(self):
        # They do not count, neither for the worth nor for a pair, but have to be integers from 0.
        for price in (0, 1, 7, 10 ** 59):
            self.assertIs(is_cost_bound(PAIRS, (0,), COSTS, 14, ((12, 9), (price, 7, 0))), True)
            self.assertIs(is_cost_bound(PAIRS, (0,), COSTS, 15, ((12, 9), (price, 7, 0))), False)
        for price in (-1, None, False, True, "0", (), [0]):
            self.assertIs(is_cost_bound(PAIRS, (0,), COSTS, 14, ((12, 9), (price, 7, 0))), False)
        self.assertIs(is_cost_bound(PAIRS, (0,), COSTS, 14, ((12, 9), (7, 0))), False)

    def test_prices_below_0(self):
        self.assertIs(is_cost_bound(PAIRS, (), COSTS, -7, ((-4, -3), (0, 0, 0))), True)
        self.assertIs(is_cost_bound(PAIRS, (), COSTS, -6, ((-4, -3), (0, 0, 0))), False)
        self.assertIs(is_cost_bound(PAIRS, (), COSTS, -6, ((1, 2), (0, -1, 0))), False)
        self.assertIs(is_cost_bound(PAIRS, (), COSTS, -100, ((1, 2), (0, -1, 0))), False)

    def test_each_pair_counts(self):
        # Post 0 costs at most 1 for person 0, and at most 5 for person 1.
        self.assertIs(is_cost_bound(PAIRS, (), COSTS, 0, ((2, 0), (0, 0, 0))), False)
        self.assertIs(is_cost_bound(PAIRS, (), COSTS, 0, ((2, 0), (1, 0, 0))), True)
        self.assertIs(is_cost_bound(PAIRS, (), COSTS, 0, ((6, 0), (5, 0, 0))), False)
        self.assertIs(is_cost_bound(PAIRS, (), COSTS, 0, ((6, 0), (5, 1, 0))), True)
        self.assertIs(is_cost_bound(PAIRS, (), COSTS, 0, ((0, 3), (0, 0, 0))), False)
        self.assertIs(is_cost_bound(PAIRS, (), COSTS, 0, ((0, 3), (0, 1, 0))), True)

    def test_worth_beside_the_number(self):
        for number in range(-20, 21):
            self.told(PAIRS, (), COSTS, number, ((1, 3), (0, 1, 0)))
            self.told(PAIRS, (1,), COSTS, number, ((1, 9), (0, 1, 0)))
            self.told((2, ()), (), (), number, ((), (0, 0)))
            self.told((2, ()), (), (), number, ((), (3, 4)))
            self.told((2, ()), (1,), (), number, ((), (3, 4)))
        self.told(PAIRS, (), COSTS, 10 ** 59, ((1, 3), (0, 1, 0)))

    def test_a_house_without_a_roster(self):
        # Nobody can take post 1, so that its price may be as high as one likes.
        house, costs = (2, ((0, 1), ())), ((4, 6), ())
        for number in (0, 7, 10 ** 40):
            self.assertIs(is_cost_bound(house, (), costs, number, ((4, number), (0, 0))), True)
            self.assertIs(is_cost_bound(house, (), costs, number + 5, ((4, number), (0, 0))), False)

    def test_all_small_prices(self):
        few = range(-1, 4)
        for house, gone in cases((1, 1), (2, 1)):
            costs = some_costs(Random(3), house, 2)
            for post in few:
                for one in few:
                    for other in few:
                        for number in range(-2, 4):
                            self.told(house, gone, costs, number, ((post,), (one, other)[:house[0]]))

    def test_variants(self):
        chance = Random(21)
        cases = [(PAIRS, (0,), COSTS), (PAIRS, (), COSTS), ((3, ()), (1,), ())]
        cases += [(house, (), some_costs(chance, house, 9)) for house in (CHAIN, WIDE)]
        for house, gone, costs in cases:
            prices = find_prices(house, gone, costs)
            least = least_roster_cost(house, gone, costs)
            for value in variants(prices):
                for number in (least, least - 1, least + 1, -10 ** 60):
                    self.told(house, gone, costs, number, value)

    def test_any_value(self):
        for odd in odd_values():
            for value in (odd, (odd, odd), ((0, 0), odd), (odd, (0, 0, 0)), ((odd, 0), (0, 0, 0)), ((0, 0), (0, odd, 0))):
                self.told(PAIRS, (0,), COSTS, -100, value)
                self.told(PAIRS, (), COSTS, -100, value)
                self.told((3, ()), (), (), -100, value)
                self.told((3, ()), (), (), -100, ((), value))
