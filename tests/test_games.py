"""Stage 12, point [15]."""

import unittest
from copy import deepcopy

from sparehands.games import answers_to, can_answer, find_book, find_strategy, is_book, is_strategy
from tests.playing import (
    answers_by_trying,
    book_by_words,
    chance_positions,
    fitting,
    positions,
    small_positions,
    strategy_by_words,
    wins_by_trying,
)
from tests.trying import CHAIN, PAIRS, WIDE, ascending_tuples, lists_and_dicts, odd_values, there_by_words, variants

EMPTY = (3, ())
EVERYBODY = (8, (tuple(range(8)),) * 5)


def reordered(value):
    """An equal value, in which the keys of all dicts were put in in another order."""
    if isinstance(value, dict):
        return {key: reordered(value[key]) for key in reversed(list(value))}
    return tuple(reordered(item) for item in value) if isinstance(value, tuple) else value


class Answers(unittest.TestCase):
    def test_examples(self):
        self.assertEqual(answers_to(CHAIN, (), (0, 1, 2), 0, 2), [])
        self.assertEqual(answers_to(CHAIN, (), (0, 1, 2), 0, 3), [(1, 2, 3)])
        self.assertEqual(answers_to(PAIRS, (), (0, 1), 2, 0), [(0, 1)])
        self.assertEqual(answers_to(CHAIN, (), (0, 1, 2), 2, 1), [(0, 1, 3)])

    def test_no_posts(self):
        for gone in ascending_tuples(range(3)):
            for person in there_by_words(EMPTY, gone):
                for r in range(6):
                    self.assertEqual(answers_to(EMPTY, gone, (), person, r), [()])

    def test_no_moves(self):
        self.assertEqual(answers_to(WIDE, (), (3, 0), 1, 0), [(3, 0)])
        self.assertEqual(answers_to(WIDE, (), (3, 0), 0, 0), [])

    def test_r_beyond_the_number_of_posts(self):
        for r in (2, 3, 4, 5, 9):
            self.assertEqual(answers_to(WIDE, (2,), (3, 0), 1, r), [(0, 3), (3, 0)])

    def test_against_all_rosters(self):
        for house, gone, roster in [*small_positions(), *chance_positions(300, 4, 6, 4)]:
            for person in there_by_words(house, gone):
                for r in range(6):
                    expected = answers_by_trying(house, gone, roster, person, r)
                    self.assertEqual(answers_to(house, gone, roster, person, r), expected, (house, gone, roster, person))

    def test_in_large_houses(self):
        for house, gone, roster in chance_positions(30, 7, 8, 5):
            for person in there_by_words(house, gone):
                for r in range(6):
                    expected = answers_by_trying(house, gone, roster, person, r)
                    self.assertEqual(answers_to(house, gone, roster, person, r), expected, (house, gone, roster, person))


class StrategyOrBook(unittest.TestCase):
    def test_examples(self):
        self.assertIs(can_answer(CHAIN, (), (0, 1, 2), 1, 2), False)
        self.assertIs(can_answer(CHAIN, (), (0, 1, 2), 1, 3), True)
        self.assertIs(can_answer(CHAIN, (), (0, 1, 3), 1, 2), True)
        self.assertIs(can_answer(WIDE, (), (0, 1), 2, 1), True)
        self.assertEqual(find_book(CHAIN, (), (0, 1, 2), 1, 2), (0, {}))

    def one_is_told(self, house, gone, roster, f, r):
        """Whether it is a strategy, after all answers were held against the words."""
        case = (house, gone, roster, f, r)
        can = can_answer(house, gone, roster, f, r)
        strategy = find_strategy(house, gone, roster, f, r)
        book = find_book(house, gone, roster, f, r)
        self.assertIs(type(can), bool)
        self.assertEqual(book is None, can, case)
        self.assertEqual(strategy is None, f == 0 or not can, case)
        if can:
            self.assertTrue(strategy_by_words(house, gone, roster, f, r, strategy), (case, strategy))
            self.assertIs(is_strategy(house, gone, roster, f, r, strategy), True, (case, strategy))
        else:
            self.assertTrue(book_by_words(house, gone, roster, f, r, book), (case, book))
            self.assertIs(is_book(house, gone, roster, f, r, book), True, (case, book))
        parts = lists_and_dicts(strategy) + lists_and_dicts(book)
        self.assertEqual(len({id(part) for part in parts}), len(parts), case)
        return can

    def test_small_houses_against_all_answers(self):
        told = {}
        for house, gone, roster in small_positions():
            for f in range(4):
                for r in range(6):
                    can = self.one_is_told(house, gone, roster, f, r)
                    self.assertEqual(can, wins_by_trying(house, gone, roster, f, r), (house, gone, roster, f, r))
                    told[(can, f)] = told.get((can, f), 0) + 1
        for f in (1, 2, 3):
            self.assertGreater(min(told[(True, f)], told[(False, f)]), 50)
        self.assertNotIn((False, 0), told)

    def test_houses_of_three_posts_against_all_answers(self):
        for house, gone, roster in list(positions((3, 3)))[::7]:
            for f in range(4):
                for r in range(6):
                    can = self.one_is_told(house, gone, roster, f, r)
                    self.assertEqual(can, wins_by_trying(house, gone, roster, f, r), (house, gone, roster, f, r))

    def test_middle_houses_against_all_answers(self):
        told = {}
        for house, gone, roster in chance_positions(120, 5, 6, 3):
            for f in range(4):
                for r in range(6):
                    can = self.one_is_told(house, gone, roster, f, r)
                    self.assertEqual(can, wins_by_trying(house, gone, roster, f, r), (house, gone, roster, f, r))
                    told.setdefault((can, f), set()).add(r)
        for f in (1, 2, 3):
            self.assertEqual(told[(False, f)], set(range(6)))
            self.assertLessEqual({1, 2, 3, 4, 5}, told[(True, f)])

    def test_houses_in_which_only_the_moves_decide(self):
        # With enough moves each of them stands f dropouts, so that every book is one against few moves.
        decided = 0
        for house, gone, roster in chance_positions(60, 6, 7, 4):
            for f in range(1, 4):
                can = [self.one_is_told(house, gone, roster, f, r) for r in range(6)]
                self.assertEqual(can, sorted(can))
                if can[5] and not can[1]:
                    decided += 1
                    for r in range(6):
                        self.assertEqual(can[r], wins_by_trying(house, gone, roster, f, r), (house, gone, roster, f, r))
        self.assertGreater(decided, 10)

    def test_large_houses(self):
        told = []
        for house, gone, roster in chance_positions(25, 7, 8, 5):
            for f, r in ((1, 1), (2, 1), (3, 0), (3, 2), (2, 4), (3, 5)):
                told.append(self.one_is_told(house, gone, roster, f, r))
        self.assertGreater(told.count(True), 10)
        self.assertGreater(told.count(False), 10)

    def test_at_the_limits(self):
        for f in range(4):
            for r in range(6):
                self.assertEqual(self.one_is_told(EVERYBODY, (), (0, 1, 2, 3, 4), f, r), f == 0 or r >= 1, (f, r))
        self.assertFalse(self.one_is_told(EVERYBODY, (7,), (0, 1, 2, 3, 4), 3, 0))
        self.assertFalse(self.one_is_told(EVERYBODY, (5, 6, 7), (0, 1, 2, 3, 4), 1, 5))
        self.assertTrue(self.one_is_told(EVERYBODY, (5, 6), (0, 1, 2, 3, 4), 1, 1))

    def test_f_0(self):
        for house, gone, roster in ((PAIRS, (0,), (1, 2)), (EMPTY, (0, 1, 2), ()), (WIDE, (), (0, 1))):
            for r in range(6):
                self.assertIs(can_answer(house, gone, roster, 0, r), True)
                self.assertIsNone(find_strategy(house, gone, roster, 0, r))
                self.assertIsNone(find_book(house, gone, roster, 0, r))
                self.assertIs(is_strategy(house, gone, roster, 0, r, None), True)
                self.assertIs(is_strategy(house, gone, roster, 0, r, {}), False)
                self.assertIs(is_book(house, gone, roster, 0, r, None), False)
                self.assertIs(is_book(house, gone, roster, 0, r, (1, {})), False)

    def test_everybody_gone(self):
        for f in (1, 2, 3):
            for r in range(6):
                self.assertEqual(find_strategy(EMPTY, (0, 1, 2), (), f, r), {})
                self.assertIsNone(find_book(EMPTY, (0, 1, 2), (), f, r))
                self.assertIs(is_strategy(EMPTY, (0, 1, 2), (), f, r, {}), True)
                self.assertIs(is_strategy(EMPTY, (0, 1, 2), (), f, r, None), False)
                self.assertIs(is_book(EMPTY, (0, 1, 2), (), f, r, (0, {})), False)

    def test_more_dropouts_than_people(self):
        self.assertEqual(find_strategy((1, ()), (), (), 3, 0), {0: ((), {})})
        self.assertEqual(
            find_strategy((2, ()), (), (), 3, 0), {0: ((), {1: ((), {})}), 1: ((), {0: ((), {})})})
        self.assertEqual(find_book((1, ((0,),)), (), (0,), 3, 5), (0, {}))

    def test_books_name_all_answers(self):
        book = find_book(WIDE, (), (0, 1), 2, 0)
        self.assertEqual(book, (0, {}))
        self.assertIs(is_book(WIDE, (), (0, 1), 2, 0, (2, {(0, 1): (0, {})})), True)
        self.assertIs(is_book(WIDE, (), (0, 1), 2, 0, (2, {})), False)
        self.assertEqual(find_book(WIDE, (0, 3), (1, 2), 1, 5), (1, {}))
        self.assertTrue(book_by_words(WIDE, (0,), (1, 2), 2, 5, find_book(WIDE, (0,), (1, 2), 2, 5)))
        self.assertEqual(len(find_book(WIDE, (0,), (1, 2), 2, 5)[1]), 2)

    def test_somewhat_beyond_the_limits(self):
        house = (9, (tuple(range(9)),) * 6)
        self.assertIs(can_answer(house, (), (0, 1, 2, 3, 4, 5), 3, 6), True)
        self.assertIs(can_answer(house, (), (0, 1, 2, 3, 4, 5), 4, 6), False)
        self.assertIs(can_answer((5, ((0, 1, 2, 3, 4),)), (), (0,), 4, 1), True)
        self.assertIs(can_answer((5, ((0, 1, 2, 3, 4),)), (), (0,), 5, 1), False)
        strategy = find_strategy((5, ((0, 1, 2, 3, 4),)), (), (0,), 4, 1)
        self.assertTrue(strategy_by_words((5, ((0, 1, 2, 3, 4),)), (), (0,), 4, 1, strategy))

    def test_told_dicts_may_be_changed(self):
        changed = 0
        for house, gone, roster in small_positions():
            for f, r in ((1, 1), (2, 1), (3, 2)):
                for find in (find_strategy, find_book):
                    told = find(house, gone, roster, f, r)
                    before = deepcopy(told)
                    for part in lists_and_dicts(told):
                        part.clear()
                        part["changed"] = None
                        changed += 1
                    self.assertEqual(find(house, gone, roster, f, r), before)
        self.assertGreater(changed, 1000)


class Papers(unittest.TestCase):
    def told(self, house, gone, roster, f, r, value):
        """Whether it is a strategy or a book, after both was held against the words."""
        case = (house, gone, roster, f, r, repr(value)[:300])
        strategy = strategy_by_words(house, gone, roster, f, r, value)
        book = book_by_words(house, gone, roster, f, r, value)
        self.assertIs(is_strategy(house, gone, roster, f, r, value), strategy, case)
        self.assertIs(is_book(house, gone, roster, f, r, value), book, case)
        return strategy or book

    def paper(self, house, gone, roster, f, r):
        if can_answer(house, gone, roster, f, r):
            return find_strategy(house, gone, roster, f, r)
        return find_book(house, gone, roster, f, r)

    def test_examples(self):
        self.assertIs(is_book(WIDE, (), (0, 1), 1, 0, (1, {})), True)
        strategy = {0: ((1, 2), None), 1: ((0, 2), None), 2: ((0, 1), None)}
        self.assertIs(is_strategy(PAIRS, (), (0, 1), 1, 2, strategy), True)

    def test_parts_of_a_strategy_that_are_wrong(self):
        good = {0: ((1, 2), None), 1: ((0, 2), None), 2: ((0, 1), None)}
        for value, expected in (
            (good, True),
            ({2: good[2], 0: good[0], 1: good[1]}, True),  # the order of keys means nothing
            ({0: good[0], 1: good[1]}, False),  # too few keys
            ({**good, 3: good[0]}, False),  # too many
            ({**good, -1: good[0]}, False),
            ({**good, None: good[0]}, False),
            ({0: good[0], 1: good[1], 3: good[2]}, False),
            ({0: good[0], 1: good[1], "2": good[2]}, False),
            ({0: good[0], True: good[1], 2: good[2]}, False),
            ({False: good[0], 1: good[1], 2: good[2]}, False),
            ({0: good[0], 1: good[1], (2,): good[2]}, False),
            ({**good, 0: ((0, 1), None)}, False),  # the person who drops out
            ({**good, 0: ((0, 2), None)}, False),
            ({**good, 1: ((1, 2), None)}, False),
            ({**good, 2: ((1, 2), None)}, False),
            ({**good, 2: ((1, 0), None)}, False),  # no roster
            ({**good, 2: ((0, 0), None)}, False),
            ({**good, 2: ((0,), None)}, False),
            ({**good, 2: ((0, 1, 2), None)}, False),
            ({**good, 2: ([0, 1], None)}, False),
            ({**good, 2: ((False, 1), None)}, False),
            ({**good, 2: (None, None)}, False),
            ({**good, 2: [(0, 1), None]}, False),  # no tuple of two
            ({**good, 2: ((0, 1),)}, False),
            ({**good, 2: ((0, 1), None, None)}, False),
            ({**good, 2: (0, 1)}, False),
            ({**good, 2: None}, False),
            ({**good, 2: ((0, 1), {})}, False),  # no strategy for f 0
            ({**good, 2: ((0, 1), False)}, False),
            ([good[0], good[1], good[2]], False),
            (list(good), False),
            (tuple(good.items()), False),
            (None, False),
            ({}, False),
        ):
            self.assertIs(is_strategy(PAIRS, (), (0, 1), 1, 2, value), expected, value)
            self.told(PAIRS, (), (0, 1), 1, 2, value)

    def test_moves_of_a_strategy(self):
        strategy = {0: ((1, 2), None), 1: ((0, 2), None), 2: ((0, 1), None)}
        for r in range(6):
            self.assertIs(is_strategy(PAIRS, (), (0, 1), 1, r, strategy), r >= 2)
            self.assertIs(is_strategy(PAIRS, (), (0, 2), 1, r, strategy), r >= 1)
        near = {**strategy, 2: ((0, 1), None)}
        self.assertIs(is_strategy(PAIRS, (), (1, 2), 1, 1, near), False)
        self.assertIs(is_strategy(PAIRS, (), (1, 2), 1, 2, near), True)

    def test_parts_of_a_book_that_are_wrong(self):
        # After the dropout of 0 the rosters (1, 2) and (2, 1) are two moves away from (2, 1) or less.
        house, roster = (3, ((0, 1, 2), (0, 1, 2))), (2, 1)
        good = (0, {(1, 2): (1, {}), (2, 1): (2, {})})
        for value, expected in (
            (good, True),
            ((0, {(2, 1): (1, {}), (1, 2): (1, {})}), True),  # the order of keys means nothing
            ((1, {(0, 2): (0, {}), (2, 0): (2, {})}), True),
            ((1, good[1]), False),
            ((0, {(1, 2): (1, {})}), False),  # too few answers
            ((0, {}), False),
            ((0, {**good[1], (0, 1): (1, {})}), False),  # too many
            ((0, {**good[1], (1, 1): (1, {})}), False),
            ((0, {**good[1], None: (1, {})}), False),
            ((0, {**good[1], 1: (1, {})}), False),
            ((0, {(True, 2): (1, {}), (2, 1): (2, {})}), False),
            ((0, {(1, 2): (1, {}), (2, True): (2, {})}), False),
            ((0, {"12": (1, {}), (2, 1): (2, {})}), False),
            ((False, good[1]), False),  # no person who is there
            ((None, good[1]), False),
            ((3, good[1]), False),
            ((-3, good[1]), False),
            (("0", good[1]), False),
            (((0,), good[1]), False),
            ((0, {(1, 2): (0, {}), (2, 1): (2, {})}), False),  # 0 is gone on this page
            ((0, {(1, 2): (1, {}), (2, 1): (2, {(1, 2): (1, {})})}), False),
            ((0, {(1, 2): (1, {}), (2, 1): (True, {})}), False),
            ((0, {(1, 2): (1, {}), (2, 1): (2, None)}), False),
            ((0, {(1, 2): (1, {}), (2, 1): None}), False),
            ((0, {(1, 2): (1, {}), (2, 1): {}}), False),
            ((0, {(1, 2): (1, {}), (2, 1): [2, {}]}), False),
            ((0, [(1, 2), (2, 1)]), False),
            ((0, ()), False),
            ((0, None), False),
            ((0,), False),
            ((0, good[1], None), False),
            ([0, good[1]], False),
            ({0: good[1]}, False),
            (None, False),
        ):
            self.assertIs(is_book(house, (), roster, 2, 2, value), expected, value)
            self.told(house, (), roster, 2, 2, value)

    def test_pages_for_f_1(self):
        house = (3, ((0, 1, 2), (0, 1, 2)))
        self.assertIs(is_book(house, (), (0, 1), 1, 0, (0, {})), True)
        self.assertIs(is_book(house, (), (0, 1), 1, 1, (0, {})), False)
        self.assertIs(is_book(house, (), (0, 1), 1, 1, (0, {(2, 1): None})), False)
        self.assertIs(is_book(house, (), (0, 1), 1, 1, (0, {(2, 1): (1, {})})), False)
        self.assertIs(is_book(house, (), (0, 1), 2, 1, (0, {(2, 1): (1, {})})), True)
        self.assertIs(is_book(house, (), (0, 1), 2, 1, (2, {(0, 1): (1, {})})), True)
        self.assertIs(is_book(house, (2,), (0, 1), 1, 5, (2, {})), False)
        self.assertIs(is_book(house, (2,), (0, 1), 1, 5, (1, {})), True)

    def test_papers_for_another_f_or_r(self):
        right = wrong = 0
        for house, gone, roster in [*list(small_positions())[::23], *chance_positions(12, 4, 4, 3)]:
            for f in range(4):
                for r in range(4):
                    paper = self.paper(house, gone, roster, f, r)
                    for other in range(4):
                        for moves in range(5):
                            told = self.told(house, gone, roster, other, moves, paper)
                            right, wrong = right + told, wrong + (not told)
        self.assertGreater(min(right, wrong), 100)

    def test_papers_for_another_position(self):
        right = wrong = 0
        for house in (PAIRS, WIDE, CHAIN):
            there = [(gone, row) for gone in ascending_tuples(range(house[0])) for row in fitting(house, gone)]
            for gone, roster in there[::5]:
                for f, r in ((1, 1), (2, 1), (2, 2)):
                    paper = self.paper(house, gone, roster, f, r)
                    for other, row in there:
                        told = self.told(house, other, row, f, r, paper)
                        right, wrong = right + told, wrong + (not told)
        self.assertGreater(min(right, wrong), 50)

    def test_keys_put_in_in_another_order(self):
        for house, gone, roster in [*list(small_positions())[::11], *chance_positions(10, 5, 6, 3)]:
            for f in (1, 2, 3):
                for r in (0, 1, 2):
                    paper = reordered(self.paper(house, gone, roster, f, r))
                    self.assertTrue(self.told(house, gone, roster, f, r, paper))

    def test_variants(self):
        right = 0
        for house, gone, roster, f, r in (
                (PAIRS, (), (0, 1), 1, 2), (PAIRS, (), (0, 1), 2, 2), (PAIRS, (0,), (1, 2), 1, 1), (EMPTY, (0,), (), 3, 0),
                (EMPTY, (0, 1, 2), (), 2, 1), (WIDE, (), (0, 1), 2, 1), (WIDE, (), (0, 1), 2, 0), (WIDE, (0,), (2, 1), 2, 5),
                (CHAIN, (), (0, 1, 2), 1, 2), (CHAIN, (), (0, 1, 3), 1, 2), (CHAIN, (), (0, 1, 3), 2, 3), (PAIRS, (), (0, 1), 0, 1)):
            for value in variants(self.paper(house, gone, roster, f, r)):
                right += self.told(house, gone, roster, f, r, value)
        self.assertGreater(right, 10)

    def test_any_value(self):
        good = ((1, 2), None)
        for odd in odd_values():
            for f in (0, 1, 2):
                for value in (odd, (0, odd), (odd, {}), (0, {(1, 2): odd}), (odd, odd)):
                    self.told(PAIRS, (), (0, 1), f, 2, value)
                    self.told(WIDE, (0,), (1, 2), f, 0, value)
                    self.told(EMPTY, (0, 1, 2), (), f, 0, value)
                for value in ({0: odd, 1: odd, 2: odd}, {0: good, 1: good, 2: (odd, None)}, {0: good, 1: odd, 2: ((0, 1), odd)}):
                    self.told(PAIRS, (), (0, 1), f, 2, value)
                    self.told(EMPTY, (), (), f, 0, value)
                    self.told(EMPTY, (), (), f, 0, {person: ((), odd) for person in range(3)})

    def test_any_key(self):
        keys = [odd for odd in odd_values() if not lists_and_dicts(odd)]
        for key in keys:
            self.told(PAIRS, (), (0, 1), 1, 2, {key: ((1, 2), None), 1: ((0, 2), None), 2: ((0, 1), None)})
            self.told(PAIRS, (), (0, 1), 1, 2, {0: ((1, 2), None), 1: ((0, 2), None), key: ((0, 1), None)})
            self.told(WIDE, (0,), (1, 2), 2, 0, (3, {key: (1, {})}))
            self.told(WIDE, (0,), (1, 2), 2, 0, (3, {(1, 2): (1, {}), key: (1, {})}))
            self.told(WIDE, (0,), (1, 2), 1, 0, (1, {key: None}))
            self.told(EMPTY, (0, 1), (), 1, 0, {key: ((), None)})

    def test_values_are_unchanged(self):
        for house, gone, roster in list(small_positions())[::17]:
            for f in (1, 2):
                paper = self.paper(house, gone, roster, f, 1)
                before = deepcopy(paper)
                self.told(house, gone, roster, f, 1, paper)
                self.assertEqual(repr(paper), repr(before))
