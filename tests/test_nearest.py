"""Stage 10, point [13]."""

import unittest

from sparehands.cheapest import find_prices, is_cost_bound
from sparehands.nearest import find_nearest, least_moves, move_costs, moves_apart, nearest_rosters
from tests.playing import fitting, moves_by_words
from tests.trying import (
    CHAIN,
    PAIRS,
    WIDE,
    ascending_tuples,
    cost_bound_by_words,
    cost_by_words,
    houses,
    large_cases,
    roster_by_words,
    rosters_by_trying,
    variants,
)

EMPTY = (3, ())
EVERYBODY = (10, (tuple(range(10)),) * 6)


def move_costs_by_words(house, roster):
    pairs = [(k, p) for k, p in enumerate(roster)]
    return tuple(tuple(0 if (k, p) in pairs else 1 for p in house[1][k]) for k in range(len(house[1])))


def small_houses():
    for people, posts in ((1, 0), (3, 0), (1, 1), (2, 1), (2, 2), (3, 1), (3, 2), (3, 3)):
        yield from houses(people, posts)
    yield from (PAIRS, WIDE, CHAIN)


class Nearest(unittest.TestCase):
    def test_examples(self):
        self.assertEqual(moves_apart((0, 1, 2), (0, 2, 3)), 2)
        self.assertEqual(move_costs(PAIRS, (0, 1)), ((0, 1), (0, 1)))
        self.assertEqual(least_moves(CHAIN, (0,), (0, 1, 2)), 3)
        self.assertEqual(find_nearest(CHAIN, (0,), (0, 1, 2)), (1, 2, 3))
        self.assertIsNone(least_moves(PAIRS, (0, 1), (0, 1)))
        self.assertEqual(nearest_rosters(WIDE, (1,), (0, 1)), [(0, 2), (0, 3)])
        self.assertEqual(nearest_rosters(CHAIN, (3,), (0, 1, 3)), [(0, 1, 2)])
        costs = move_costs(CHAIN, (0, 1, 2))
        self.assertIs(is_cost_bound(CHAIN, (0,), costs, 3, ((3, 2, 1), (0, 2, 1, 0))), True)

    def test_no_posts(self):
        self.assertEqual(moves_apart((), ()), 0)
        self.assertEqual(move_costs(EMPTY, ()), ())
        for gone in ascending_tuples(range(3)):
            self.assertEqual(least_moves(EMPTY, gone, ()), 0)
            self.assertEqual(find_nearest(EMPTY, gone, ()), ())
            self.assertEqual(nearest_rosters(EMPTY, gone, ()), [()])

    def test_no_roster_that_fits(self):
        for house, gone, roster in (
                (PAIRS, (0, 1), (0, 1)), (PAIRS, (0, 1, 2), (1, 2)), (CHAIN, (0, 1), (0, 1, 2)), (CHAIN, (1, 2), (1, 2, 3)),
                (WIDE, (0, 1, 3), (1, 0)), ((2, ((0, 1), (0,))), (1,), (1, 0)), ((1, ((0,),)), (0,), (0,))):
            self.assertIsNone(least_moves(house, gone, roster))
            self.assertIsNone(find_nearest(house, gone, roster))
            self.assertEqual(nearest_rosters(house, gone, roster), [])

    def test_moves_count_posts_and_not_people(self):
        self.assertEqual(moves_apart((0, 1), (1, 0)), 2)
        self.assertEqual(moves_apart((0, 1, 2), (1, 2, 0)), 3)
        self.assertEqual(moves_apart((0, 1, 2), (0, 1, 2)), 0)
        self.assertEqual(moves_apart((0, 1, 2), (3, 1, 2)), 1)
        self.assertEqual(nearest_rosters((2, ((0, 1), (0, 1))), (), (1, 0)), [(1, 0)])

    def test_the_costs_are_in_the_order_of_those_who_can_take_the_post(self):
        house = (5, ((0, 2, 4), (1,), (2, 3, 4)))
        self.assertEqual(move_costs(house, (2, 1, 4)), ((1, 0, 1), (0,), (1, 1, 0)))
        self.assertEqual(move_costs(house, (0, 1, 3)), ((0, 1, 1), (0,), (1, 0, 1)))

    def test_a_roster_of_which_everybody_is_gone(self):
        self.assertEqual(least_moves(WIDE, (0, 1), (0, 1)), 2)
        self.assertEqual(nearest_rosters(WIDE, (0, 1), (0, 1)), [(2, 3), (3, 2)])

    def test_the_move_costs_are_the_moves(self):
        for house in small_houses():
            there = fitting(house, ())
            for roster in there:
                costs = move_costs(house, roster)
                self.assertEqual(costs, move_costs_by_words(house, roster))
                for other in there:
                    self.assertEqual(moves_apart(roster, other), moves_by_words(roster, other))
                    self.assertEqual(cost_by_words(house, costs, other), moves_by_words(roster, other))

    def told(self, house, gone, roster, rosters):
        """The least number of moves, after all was held against the rosters that fit."""
        case = (house, gone, roster)
        moves = [moves_by_words(roster, other) for other in rosters]
        least = min(moves, default=None)
        self.assertEqual(least_moves(house, gone, roster), least, case)
        found = find_nearest(house, gone, roster)
        if least is None:
            self.assertIsNone(found, case)
        else:
            self.assertTrue(roster_by_words(house, gone, found), case)
            self.assertEqual(moves_by_words(roster, found), least, case)
        nearest = [other for other, many in zip(rosters, moves) if many == least]
        self.assertEqual(nearest_rosters(house, gone, roster), nearest, case)
        return least

    def test_small_houses_against_all_rosters(self):
        told = {}
        for house in small_houses():
            for roster in fitting(house, ()):
                for gone in ascending_tuples(range(house[0])):
                    least = self.told(house, gone, roster, list(fitting(house, gone)))
                    told[least] = told.get(least, 0) + 1
        self.assertEqual(set(told), {None, 0, 1, 2, 3})
        self.assertGreater(min(told[None], told[0], told[1], told[2]), 20)

    def test_large_houses_against_all_rosters(self):
        told = []
        for house, gone in large_cases(400):
            if house[0] <= 7:
                for roster in rosters_by_trying(house, ())[:2]:
                    told.append(self.told(house, gone, roster, rosters_by_trying(house, gone)))
        self.assertLessEqual({None, 0, 1, 2, 3, 4}, set(told))

    def test_prices_show_that_none_is_nearer(self):
        shown = 0
        for house, gone in large_cases(200):
            rosters = rosters_by_trying(house, ())[:1] if house[0] <= 7 else []
            for roster in rosters:
                costs = move_costs(house, roster)
                least = least_moves(house, gone, roster)
                prices = find_prices(house, gone, costs)
                self.assertEqual(prices is None, least is None)
                if prices is not None:
                    self.assertTrue(cost_bound_by_words(house, gone, costs, least, prices))
                    self.assertIs(is_cost_bound(house, gone, costs, least, prices), True)
                    self.assertIs(is_cost_bound(house, gone, costs, least + 1, prices), False)
                    shown += 1
        self.assertGreater(shown, 20)

    def test_any_value_as_prices(self):
        costs = move_costs(CHAIN, (0, 1, 2))
        for value in variants(((3, 2, 1), (0, 2, 1, 0))):
            for number in (2, 3, 4):
                expected = cost_bound_by_words(CHAIN, (0,), costs, number, value)
                self.assertIs(is_cost_bound(CHAIN, (0,), costs, number, value), expected, value)

    def test_at_the_limits(self):
        self.assertEqual(least_moves(EVERYBODY, (0, 1, 2, 3), (0, 1, 2, 3, 4, 5)), 4)
        found = nearest_rosters(EVERYBODY, (0, 1, 2, 3), (0, 1, 2, 3, 4, 5))
        self.assertEqual(len(found), 24)
        self.assertEqual((found[0], found[-1]), ((6, 7, 8, 9, 4, 5), (9, 8, 7, 6, 4, 5)))
        self.assertIsNone(least_moves(EVERYBODY, (0, 1, 2, 3, 9), (0, 1, 2, 3, 4, 5)))
        row = (10, tuple((k, k + 1) for k in range(6)))
        self.assertEqual(nearest_rosters(row, (0,), (0, 1, 2, 3, 4, 5)), [(1, 2, 3, 4, 5, 6)])
