"""Stage 1, point [4]."""

import unittest
from itertools import product

from sparehands.houses import is_house, is_roster, takers
from tests.trying import (
    CHAIN,
    PAIRS,
    WIDE,
    ascending_tuples,
    house_by_words,
    large_cases,
    odd_values,
    roster_by_words,
    small_cases,
    takers_by_words,
)


class Houses(unittest.TestCase):
    def told(self, value, expected):
        self.assertIs(is_house(value), expected, repr(value)[:200])

    def test_examples(self):
        houses = [PAIRS, (3, ((1, 0),)), (0, ()), (2, ((0, 2),))]
        self.assertEqual([is_house(house) for house in houses], [True, False, False, False])

    def test_number_of_people(self):
        for people in range(-2, 14):
            self.told((people, ()), 1 <= people <= 10)
        self.told((10 ** 60 - 1, ()), False)

    def test_number_of_posts(self):
        for posts in range(9):
            self.told((2, ((0, 1),) * posts), posts <= 6)
            self.told((2, ((),) * posts), posts <= 6)

    def test_people_of_a_post(self):
        for people in range(1, 11):
            self.told((people, ((people - 1,),)), True)
            self.told((people, ((people,),)), False)
            self.told((people, ((-1,),)), False)
            self.told((people, (tuple(range(people)),) * 6), True)
            self.told((people, (tuple(range(people + 1)),)), False)

    def test_posts(self):
        self.told((1, ((),)), True)
        self.told((3, ((0, 1, 2), (), (0, 2), (1,))), True)
        self.told((3, ((1, 0),)), False)
        self.told((3, ((0, 2, 1),)), False)
        self.told((3, ((0, 0),)), False)
        self.told((3, ((0, 1, 1),)), False)
        self.told((3, ((0, 1), (1, 3))), False)
        self.told((3, ((0, 1), 1)), False)
        self.told((3, ((0, 1), None)), False)
        self.told((3, ((0, 1), "1")), False)
        self.told((3, ((0, (1,)),)), False)

    def test_bools_in_the_place_of_integers(self):
        self.told((True, ()), False)
        self.told((True, ((0,),)), False)
        self.told((2, ((False,),)), False)
        self.told((2, ((0, True),)), False)
        self.told((2, ((False, 1),)), False)
        self.told((2, True), False)

    def test_other_kinds_in_the_place_of_tuples(self):
        self.told([3, ((0, 1),)], False)
        self.told((3, [(0, 1)]), False)
        self.told((3, ([0, 1],)), False)
        self.told((3, {(0, 1): 0}), False)
        self.told((3, ({0: 0, 1: 1},)), False)
        self.told({0: 3, 1: ()}, False)
        self.told("3(", False)
        self.told((3, "01"), False)
        self.told((3, ("01",)), False)
        self.told((3, ("",)), False)
        self.told((3, ""), False)
        self.told((3,), False)
        self.told((3, (), ()), False)
        self.told((3, ((0, 1),), None), False)

    def test_any_value_in_any_place(self):
        for odd in odd_values():
            for value in (odd, (odd, ()), (3, odd), (3, (odd,)), (3, ((0, 1), odd)), (4, ((0, odd),)), (4, ((odd, 2),))):
                self.told(value, house_by_words(value))


class Rosters(unittest.TestCase):
    def told(self, house, gone, value, expected):
        self.assertIs(is_roster(house, gone, value), expected, (house, gone, repr(value)[:200]))

    def test_examples(self):
        self.told(PAIRS, (), (0, 1), True)
        self.told(PAIRS, (0,), (0, 1), False)
        self.told(PAIRS, (), (1, 1), False)

    def test_empty_house(self):
        for gone in ((), (0,), (0, 1, 2)):
            self.told((3, ()), gone, (), True)
            self.told((3, ()), gone, (0,), False)
            for odd in ([], {}, "", None, False):
                self.told((3, ()), gone, odd, False)

    def test_wrong_rosters(self):
        self.told(CHAIN, (), (0, 1, 2), True)
        self.told(CHAIN, (), (0, 1), False)
        self.told(CHAIN, (), (), False)
        self.told(CHAIN, (), (0, 1, 2, 3), False)
        self.told(CHAIN, (), (0, 1, 1), False)
        self.told(CHAIN, (), (0, 2, 2), False)
        self.told(CHAIN, (), (2, 1, 3), False)
        self.told(CHAIN, (3,), (0, 1, 3), False)
        self.told(CHAIN, (0, 3), (1, 2, 3), False)
        self.told(CHAIN, (3,), (0, 1, 2), True)
        self.told(CHAIN, (), [0, 1, 2], False)
        self.told(CHAIN, (), (-4, -3, -2), False)
        self.told(WIDE, (), (3, 0), True)
        self.told(WIDE, (), (4, 0), False)
        self.told((2, ((),)), (), (0,), False)

    def test_bools_in_the_place_of_people(self):
        self.told(PAIRS, (), (False, 1), False)
        self.told(PAIRS, (), (0, True), False)
        self.told(PAIRS, (), (False, True), False)

    def test_against_the_words(self):
        for house, gone in small_cases():
            people, posts = house
            if len(posts) <= 2 or people <= 2:
                for value in product(range(-1, people + 1), repeat=len(posts)):
                    self.told(house, gone, value, roster_by_words(house, gone, value))

    def test_any_value(self):
        for house in ((3, ()), (3, ((0, 1),)), PAIRS, CHAIN, WIDE):
            for gone in ((), (1,), (0, 2)):
                for odd in odd_values():
                    for value in (odd, (odd,), (odd, 1), (0, odd), (0, 1, odd)):
                        self.told(house, gone, value, roster_by_words(house, gone, value))


class Takers(unittest.TestCase):
    def told(self, house, gone, posts, expected):
        found = takers(house, gone, posts)
        self.assertIs(type(found), list)
        self.assertEqual(found, expected, (house, gone, posts))

    def test_examples(self):
        self.told(CHAIN, (1,), (0, 1), [0, 2])

    def test_no_posts(self):
        for gone in ((), (1,), (0, 1, 2, 3)):
            self.told(CHAIN, gone, (), [])
        self.told((3, ()), (), (), [])

    def test_all_posts(self):
        self.told(CHAIN, (), (0, 1, 2), [0, 1, 2, 3])
        self.told(CHAIN, (0, 2), (0, 1, 2), [1, 3])
        self.told(CHAIN, (0, 1, 2, 3), (0, 1, 2), [])
        self.told((4, ((3,), (), (0, 3))), (), (0, 1, 2), [0, 3])

    def test_one_post(self):
        self.told(CHAIN, (), (2,), [2, 3])
        self.told(CHAIN, (2,), (2,), [3])
        self.told((4, ((3,), (), (0, 3))), (), (1,), [])

    def test_against_the_words(self):
        for house, gone in list(small_cases()) + list(large_cases(60)):
            for posts in ascending_tuples(range(len(house[1]))):
                self.told(house, gone, posts, takers_by_words(house, gone, posts))
