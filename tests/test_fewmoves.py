"""Stage 13, point [16]."""

import unittest

from sparehands.fewmoves import least_r, least_ready, ready_rosters
from sparehands.games import can_answer
from tests.playing import chance_positions, fitting, small_positions, wins_by_trying
from tests.trying import CHAIN, PAIRS, WIDE, ascending_tuples, houses, stands_by_trying

EMPTY = (3, ())
EVERYBODY = (8, (tuple(range(8)),) * 5)


def small_houses():
    for people, posts in ((1, 0), (3, 0), (1, 1), (2, 1), (2, 2), (3, 1), (3, 2)):
        yield from houses(people, posts)
    yield from (PAIRS, WIDE, CHAIN)


def some_houses(many, least, most, posts):
    return [house for house, _, _ in chance_positions(many, least, most, posts)]


class LeastR(unittest.TestCase):
    def test_examples(self):
        self.assertEqual(least_r(CHAIN, (), (0, 1, 2), 1), 3)
        self.assertEqual(least_r(CHAIN, (), (0, 1, 3), 1), 2)
        self.assertIsNone(least_r(CHAIN, (), (0, 1, 2), 2))

    def test_f_0(self):
        for house, gone, roster in small_positions():
            self.assertEqual(least_r(house, gone, roster, 0), 0)

    def test_no_posts(self):
        for gone in ascending_tuples(range(3)):
            for f in range(4):
                self.assertEqual(least_r(EMPTY, gone, (), f), 0)

    def told(self, house, gone, roster, f):
        case = (house, gone, roster, f)
        won = [r for r in range(len(house[1]) + 1) if wins_by_trying(house, gone, roster, f, r)]
        found = least_r(house, gone, roster, f)
        self.assertEqual(found, min(won, default=None), case)
        self.assertIn(type(found), (int, type(None)))
        return found

    def test_small_houses_against_all_answers(self):
        for house, gone, roster in small_positions():
            for f in range(4):
                self.told(house, gone, roster, f)

    def test_middle_houses_against_all_answers(self):
        told = [
            self.told(house, gone, roster, f)
            for house, gone, roster in chance_positions(80, 5, 6, 4) for f in range(4)]
        self.assertLessEqual({None, 0, 1, 2}, set(told))

    def test_none_exactly_if_the_house_does_not_stand_the_dropouts(self):
        for house, gone, roster in chance_positions(80, 5, 7, 4):
            for f in range(4):
                self.assertEqual(least_r(house, gone, roster, f) is not None, stands_by_trying(house, gone, f))

    def test_large_houses(self):
        for house, gone, roster in chance_positions(25, 7, 8, 5):
            for f in range(4):
                found = least_r(house, gone, roster, f)
                can = [r for r in range(6) if can_answer(house, gone, roster, f, r)]
                self.assertEqual(can, [] if found is None else list(range(found, 6)))

    def test_at_the_limits(self):
        self.assertEqual([least_r(EVERYBODY, (), (7, 6, 5, 4, 3), f) for f in range(4)], [0, 1, 1, 1])
        self.assertIsNone(least_r(EVERYBODY, (0,), (7, 6, 5, 4, 3), 3))

    def test_somewhat_beyond_the_limits(self):
        # When 0 drops out all the others move up by one post.
        house = (8, tuple((k, k + 1) for k in range(7)))
        self.assertEqual(least_r(house, (), (0, 1, 2, 3, 4, 5, 6), 1), 7)
        self.assertEqual(least_r(house, (), (0, 1, 2, 4, 5, 6, 7), 1), 4)


class ReadyRosters(unittest.TestCase):
    def test_examples(self):
        self.assertEqual(ready_rosters(CHAIN, 1, 2), [(0, 1, 3), (0, 2, 3)])
        self.assertEqual(ready_rosters(CHAIN, 1, 1), [])
        self.assertEqual(ready_rosters(PAIRS, 0, 0), [(0, 1), (0, 2), (1, 2)])
        self.assertEqual(least_ready(CHAIN, 1), 2)
        self.assertEqual(least_ready(WIDE, 2), 1)

    def test_no_posts(self):
        for f in range(4):
            self.assertEqual(least_ready(EMPTY, f), 0)
            for r in range(6):
                self.assertEqual(ready_rosters(EMPTY, f, r), [()])

    def test_a_house_without_a_roster(self):
        for house in ((1, ((),)), (2, ((0,), (0,))), (3, ((0, 1), (), (2,)))):
            for f in range(4):
                self.assertIsNone(least_ready(house, f))
                for r in range(6):
                    self.assertEqual(ready_rosters(house, f, r), [])

    def test_f_0(self):
        for house in small_houses():
            rosters = list(fitting(house, ()))
            self.assertEqual(least_ready(house, 0), 0 if rosters else None)
            for r in range(6):
                self.assertEqual(ready_rosters(house, 0, r), rosters)

    def told(self, house, f):
        """The numbers of rosters that are ready, for each r."""
        many = []
        for r in range(6):
            expected = [roster for roster in fitting(house, ()) if wins_by_trying(house, (), roster, f, r)]
            self.assertEqual(ready_rosters(house, f, r), expected, (house, f, r))
            many.append(len(expected))
        found = least_ready(house, f)
        self.assertEqual(found, min([r for r in range(6) if many[r]], default=None), (house, f))
        self.assertIn(type(found), (int, type(None)))
        self.assertEqual(many, sorted(many))
        return many

    def test_small_houses_against_all_answers(self):
        for house in small_houses():
            for f in range(4):
                self.told(house, f)

    def test_middle_houses_against_all_answers(self):
        for house in some_houses(50, 4, 5, 3):
            for f in range(4):
                many = self.told(house, f)
                # With r as great as the number of posts all are ready, if the house stands f dropouts.
                all_of_them = len(fitting(house, ())) if stands_by_trying(house, (), f) else 0
                self.assertEqual(many[len(house[1]):], [all_of_them] * (6 - len(house[1])))

    def test_some_but_not_all_are_ready(self):
        partly = 0
        for house in some_houses(50, 5, 6, 3):
            for f in (1, 2):
                many = self.told(house, f)
                partly += len([found for found in many if 0 < found < many[5]])
        self.assertGreater(partly, 10)

    def test_large_houses(self):
        for house in some_houses(5, 7, 8, 4):
            for f, r in ((1, 1), (2, 2), (3, 1)):
                expected = [roster for roster in fitting(house, ()) if can_answer(house, (), roster, f, r)]
                self.assertEqual(ready_rosters(house, f, r), expected, (house, f, r))

    def test_at_the_limits(self):
        self.assertEqual(ready_rosters(EVERYBODY, 3, 0), [])
        self.assertEqual(len(ready_rosters(EVERYBODY, 2, 1)), 6720)
        self.assertEqual(len(ready_rosters(EVERYBODY, 3, 5)), 6720)
        self.assertEqual([least_ready(EVERYBODY, f) for f in range(4)], [0, 1, 1, 1])
