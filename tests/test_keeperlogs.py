"""Stage 19, point [22]."""

import unittest
from copy import deepcopy

from sparehands.cheapest import find_prices
from sparehands.errors import SparehandsError
from sparehands.games import find_strategy
from sparehands.keeperlogs import first_keeper_fault, is_keeper_log, keeper_log
from sparehands.keepers import Keeper
from sparehands.spares import find_plan
from tests.keeping import chance_keepers, log_fault_by_words, make, move_costs_by_words, stands_after, state_of
from tests.learning import missing_by_words
from tests.playing import fitting
from tests.trying import CHAIN, PAIRS, WIDE, lists_and_dicts, odd_values, variants

EMPTY = (3, ())
EASY = (5, ((0, 1), (1, 2, 3, 4)))
HARDY = (6, ((0, 1, 2, 3), (1, 2, 3, 4, 5)))
EVERYBODY = (8, (tuple(range(8)),) * 5)
KINDS = (("drop", False), ("drop", True), ("let", False), ("let", True), ("back", None), ("learn", None), ("pledge", None))


def after(house, f, *calls):
    keeper = Keeper(house, f)
    for call in calls:
        make(keeper, call)
    return keeper


def told_keepers():
    """Keepers after calls of each kind, as (house, f, keeper)."""
    for house, f, calls in (
            (PAIRS, 0, ()),
            (PAIRS, 1, ()),
            (EMPTY, 3, (("let", 1), ("pledge", 2, 0), ("drop", 0), ("back", 1), ("let", 2), ("drop", 1))),
            (PAIRS, 0, (("drop", 1), ("learn", 1, 0), ("back", 1))),
            (PAIRS, 0, (("pledge", 1, 2), ("drop", 0))),
            (WIDE, 1, (("let", 0), ("pledge", 1, 1), ("back", 0), ("let", 3), ("drop", 1))),
            (EASY, 1, (("drop", 4), ("back", 4), ("let", 3), ("pledge", 1, 2), ("drop", 0), ("learn", 0, 4), ("back", 0))),
            (HARDY, 0, (("pledge", 2, 2), ("learn", 0, 4), ("let", 5), ("drop", 1), ("back", 5), ("drop", 3), ("drop", 4))),
            (CHAIN, 0, (("drop", 0), ("back", 0), ("pledge", 1, 3), ("pledge", 1, 5), ("drop", 1), ("back", 1), ("let", 3)))):
        yield house, f, after(house, f, *calls)


def kinds_of(log):
    """The kinds of calls that a log has, with whether a pledge was in force."""
    found = []
    pledge = 0
    for call, _, _ in log[1:]:
        found.append((call[0], pledge > 0 if call[0] in ("drop", "let") else None))
        if call[0] == "pledge":
            pledge = call[1]
        elif call[0] == "drop" and pledge > 0:
            pledge -= 1
    return found


def reordered(value):
    """An equal value, in which the keys of all dicts were put in in another order."""
    if isinstance(value, dict):
        return {key: reordered(value[key]) for key in reversed(list(value))}
    return type(value)(reordered(item) for item in value) if isinstance(value, (tuple, list)) else value


class Logs(unittest.TestCase):
    def told(self, house, f, value):
        """Whether a list is a log, after that was held against the words."""
        fault = log_fault_by_words(house, f, value)
        found = first_keeper_fault(house, f, value)
        if found != fault or type(found) is not type(fault) or is_keeper_log(house, f, value) is not (fault is None):
            self.fail((house, f, found, fault, repr(value)[:500]))
        return fault is None

    def all_keepers(self, many, steps):
        yield from told_keepers()
        for house, f, held in chance_keepers(self, many, steps):
            yield house, f, held.keeper

    def test_examples(self):
        keeper = Keeper(PAIRS, 0)
        keeper.drop(1)
        log = keeper_log(keeper)
        self.assertEqual(log[1][:2], (("drop", 1), (0, 2)))
        self.assertIs(is_keeper_log(PAIRS, 0, log), True)
        self.assertIs(is_keeper_log(PAIRS, 1, log), False)
        self.assertEqual(first_keeper_fault(PAIRS, 0, []), 0)
        self.assertEqual(first_keeper_fault(PAIRS, 0, [(None, (0, 1), None)]), 0)
        self.assertIsNone(first_keeper_fault(PAIRS, 0, [(None, (0, 1), (((0, 1), ()), ((0, 1), ())))]))

    def test_logs_of_keepers(self):
        kinds = {}
        for house, f, keeper in self.all_keepers(80, 10):
            states = [state_of(keeper)]
            calls = []
            log = keeper_log(keeper)
            self.assertTrue(self.told(house, f, log), (house, f, log))
            self.assertEqual(state_of(keeper), states[0])
            call = keeper.undo()
            while call is not None:
                calls.append(call)
                states.append(state_of(keeper))
                call = keeper.undo()
            self.assertEqual([entry[0] for entry in log], [None, *calls[::-1]])
            self.assertEqual([entry[1] for entry in log], [state[1] for state in states[::-1]])
            for kind in kinds_of(log):
                kinds[kind] = kinds.get(kind, 0) + 1
        for kind in KINDS:
            self.assertGreater(kinds.get(kind, 0), 15, kind)

    def test_the_first_entry(self):
        for house in (PAIRS, WIDE, CHAIN, EMPTY, EASY):
            for f in range(4):
                if stands_after(house, (), f):
                    keeper = Keeper(house, f)
                    (call, roster, plan), = keeper_log(keeper)
                    self.assertIsNone(call)
                    self.assertEqual(roster, keeper.roster())
                    self.assertEqual(plan, find_plan(house, (), f))
                    self.told(house, f, [(None, roster, plan)])

    def test_refused_calls_and_calls_taken_back_leave_nothing(self):
        keeper = Keeper(PAIRS, 0)
        empty = keeper_log(keeper)
        for call in (("drop", 5), ("back", 0), ("learn", 0, 0), ("pledge", 2, 5), ("let", None)):
            with self.assertRaises(SparehandsError):
                make(keeper, call)
            self.assertEqual(keeper_log(keeper), empty)
        keeper.drop(1)
        log = keeper_log(keeper)
        for call in (("drop", 0), ("let", 2), ("pledge", 1, 0)):
            with self.assertRaises(SparehandsError):
                make(keeper, call)
            self.assertEqual(keeper_log(keeper), log)
        keeper.back(1)
        keeper.undo()
        self.assertEqual(keeper_log(keeper), log)
        keeper.undo()
        self.assertEqual(keeper_log(keeper), empty)
        keeper.undo()
        self.assertEqual(keeper_log(keeper), empty)

    def test_papers_by_their_kinds(self):
        keeper = after(EASY, 0, ("drop", 4), ("let", 3), ("back", 4), ("back", 3), ("learn", 0, 3), ("pledge", 2, 2))
        make(keeper, ("let", 2))
        make(keeper, ("drop", 0))
        make(keeper, ("drop", 3))
        papers = [entry[2] for entry in keeper_log(keeper)]
        kinds = [type(paper) for paper in papers]
        none = type(None)
        self.assertEqual(kinds, [tuple, tuple, tuple, none, none, none, dict, tuple, dict, none])
        self.assertEqual([type(part) for part in papers[2]], [tuple, tuple])
        self.assertEqual([type(part) for part in papers[7]], [dict, tuple])
        self.assertEqual(sorted(papers[6]), [0, 1, 2, 3, 4])
        self.assertEqual(sorted(papers[7][0]), [0, 1, 3, 4])
        self.assertEqual(sorted(papers[8]), [1, 3, 4])

    def test_any_valid_papers(self):
        # Other prices, and a strategy with more moves than are needed.
        for prices in (((2, 1), (0, 1, 0)), ((4, 3), (9, 3, 2)), ((2, 1), (10 ** 59, 1, 0))):
            self.assertTrue(self.told(PAIRS, 0, [
                (None, (0, 1), (((1, 2), ()), ((0, 2), ()))), (("drop", 0), (1, 2), prices), (("learn", 0, 2), (1, 2), None)]))
        three = (3, ((0, 1, 2), (0, 1, 2)))
        plan = (((0, 1), ()), ((1, 2), ()))
        good = {0: ((2, 1), None), 1: ((2, 0), None), 2: ((1, 0), None)}
        self.assertTrue(self.told(three, 0, [(None, (0, 1), plan), (("pledge", 1, 2), (0, 1), good)]))
        self.assertFalse(self.told(three, 0, [(None, (0, 1), plan), (("pledge", 1, 1), (0, 1), good)]))
        self.assertTrue(self.told(three, 0, [
            (None, (0, 1), plan), (("pledge", 1, 2), (0, 1), good), (("drop", 2), (1, 0), None)]))
        self.assertFalse(self.told(three, 0, [
            (None, (0, 1), plan), (("pledge", 1, 1), (0, 1), {0: ((2, 1), None), 1: ((0, 2), None), 2: ((0, 1), None)}),
            (("drop", 2), (1, 0), None)]))

    def test_more_moves_than_needed(self):
        # Without a pledge the roster has to be one of the nearest, with one at most r moves away.
        plan = (((0, 1), ()), ((0, 1), ()))
        first = (None, (0, 1), plan)
        for roster in fitting(WIDE, (3,)):
            costs = move_costs_by_words(WIDE, (0, 1))
            for call, wrap in ((("drop", 3), False), (("let", 3), True)):
                prices = find_prices(WIDE, (3,), costs)
                paper = (prices, find_plan(WIDE, (3,), 0)) if wrap else prices
                self.assertEqual(self.told(WIDE, 0, [first, (call, roster, paper)]), roster == (0, 1))
            for r in (1, 2):
                pledge = (("pledge", 1, r), (0, 1), find_strategy(WIDE, (), (0, 1), 1, r))
                near = [roster[0] == 0, roster[1] == 1].count(False) <= r
                self.assertEqual(self.told(WIDE, 0, [first, pledge, (("drop", 3), roster, None)]), near)
                paper = (find_strategy(WIDE, (3,), roster, 1, r), find_plan(WIDE, (3,), 0))
                self.assertEqual(self.told(WIDE, 0, [first, pledge, (("let", 3), roster, paper)]), near)

    def test_a_plan_for_another_f(self):
        keeper = after(WIDE, 1, ("let", 0))
        first, (call, roster, (prices, plan)) = keeper_log(keeper)
        self.assertTrue(self.told(WIDE, 1, [first, (call, roster, (prices, plan))]))
        for gone, f in (((0,), 0), ((), 1), ((), 2)):
            self.assertFalse(self.told(WIDE, 1, [first, (call, roster, (prices, find_plan(WIDE, gone, f)))]))

    def test_calls_that_may_not_be_made(self):
        keeper = after(EASY, 0, ("drop", 4))
        log = keeper_log(keeper)
        roster = keeper.roster()
        strategy = find_strategy(EASY, (4,), roster, 1, 5)
        self.assertTrue(self.told(EASY, 0, [*log, (("pledge", 1, 5), roster, strategy)]))
        for call in (
                ("pledge", 0, 5), ("pledge", 3, 5), ("pledge", 1, 6), ("pledge", 1, -1), ("pledge", True, 5), ("pledge", -1, 5),
                ("pledge", 1, 5, 0), ("pledge", 1), ("pledge", (1, 5)), ("pledge", "1", 5), ("pledge", 1, None), ("Pledge", 1, 5)):
            for paper in (strategy, None, {}):
                self.assertFalse(self.told(EASY, 0, [*log, (call, roster, paper)]), call)
        self.assertFalse(self.told(EASY, 0, [*log, (("pledge", 1, False), roster, find_strategy(EASY, (4,), roster, 1, 1))]))
        for call, expected in (
                (("back", 4), True), (("back", 3), False), (("back", True), False), (("back", "4"), False), (("back",), False),
                (("back", 4, 4), False), (("back", 5), False), (("learn", 0, 2), True), (("learn", 0, 0), False),
                (("learn", False, 2), False), (("learn", 0, 5), False), (("learn", 2, 2), False), (("learn", (0, 2)), False),
                (("learn", 0, 4), True), (("learn", 1, 0), True), (("learn", True, 0), False), (("learn", 1, False), False),
                (("learn", 0), False), (("undo",), False), ((), False), (None, False), (["back", 4], False), ("back", False),
                (("", 4), False), ((None, 4), False), ((0, 4), False), (("back4",), False), ({"back": 4}, False)):
            self.assertIs(self.told(EASY, 0, [*log, (call, roster, None)]), expected, call)
        for call in (("drop", 4), ("let", 4), ("drop", 5), ("drop", True), ("let", False), ("drop", None), ("drop",), ("let", 0, 0)):
            for value in ((0, 1), (0, 2), (0, 3), (1, 2)):
                self.assertFalse(self.told(EASY, 0, [*log, (call, value, find_prices(EASY, (4,), move_costs_by_words(EASY, roster)))]))

    def test_numbers_of_a_pledge(self):
        # Where everybody is gone, {} is a strategy for all of them; where 3 more may go, there is one for 3 dropouts.
        log = keeper_log(after(EMPTY, 0, ("drop", 0), ("drop", 1), ("drop", 2)))
        wide = keeper_log(Keeper((4, ((0, 1, 2, 3),)), 0))
        for n in (-1, 0, 1, 2, 3, 4, True, None):
            for r in (-1, 0, 1, 4, 5, 6, 7, False, True, None):
                allowed = type(n) is int and type(r) is int and 1 <= n <= 2 and 0 <= r <= 5
                for paper in ({}, None):
                    entry = (("pledge", n, r), (), paper)
                    self.assertIs(self.told(EMPTY, 0, [*log, entry]), allowed and paper == {}, entry)
                if type(n) is int and type(r) is int and n >= 0 and r >= 1:
                    strategy = find_strategy((4, ((0, 1, 2, 3),)), (), (0,), n, r)
                    entry = (("pledge", n, r), (0,), strategy)
                    self.assertIs(self.told((4, ((0, 1, 2, 3),)), 0, [*wide, entry]), allowed, entry)

    def test_rosters_that_change_where_they_may_not(self):
        keeper = after(EASY, 0, ("drop", 4), ("back", 4), ("learn", 0, 3), ("pledge", 1, 2))
        log = keeper_log(keeper)
        self.assertTrue(self.told(EASY, 0, log))
        for at in (2, 3, 4):
            call, roster, paper = log[at]
            for other in fitting(EASY, ()):
                papers = [paper]
                if call[0] == "pledge":
                    papers.append(find_strategy(keeper.house(), (), other, 1, 2))
                for value in papers:
                    self.assertIs(self.told(EASY, 0, [*log[:at], (call, other, value)]), other == roster)

    def test_entries_left_out_twice_exchanged_and_put_in(self):
        right = wrong = 0
        for house, f, keeper in self.all_keepers(40, 8):
            log = keeper_log(keeper)
            values = [log[:k] for k in range(len(log))] + [log[k:] for k in range(1, len(log))]
            values += [log[:k] + log[k + 1:] for k in range(len(log))]
            values += [log[:k + 1] + log[k:] for k in range(len(log))]
            values += [log[:k] + [log[k + 1], log[k]] + log[k + 2:] for k in range(len(log) - 1)]
            values += [log[:k] + [entry] + log[k:] for k in range(len(log) + 1) for entry in log[1:5]]
            values += [log[:k] + [(("back", 0), log[k - 1][1], None)] + log[k:] for k in range(1, len(log) + 1)]
            values += [log[:k] + [(("learn", 0, 0), log[k - 1][1], None)] + log[k:] for k in range(1, len(log) + 1)]
            for value in values:
                told = self.told(house, f, value)
                right, wrong = right + told, wrong + (not told)
        self.assertGreater(min(right, wrong), 200)

    def test_papers_and_rosters_exchanged(self):
        right = wrong = 0
        for house, f, keeper in self.all_keepers(30, 8):
            log = keeper_log(keeper)
            for k, (call, roster, paper) in enumerate(log):
                entries = [(call, roster, other[2]) for other in log] + [(call, other[1], paper) for other in log]
                entries += [(other[0], roster, paper) for other in log]
                entries += [(call, other, paper) for other in fitting(house, ())[:6]]
                for entry in entries:
                    told = self.told(house, f, log[:k] + [entry] + log[k + 1:])
                    right, wrong = right + told, wrong + (not told)
        self.assertGreater(min(right, wrong), 500)

    def test_logs_for_another_house_or_another_f(self):
        right = wrong = 0
        for house, f, keeper in self.all_keepers(40, 4):
            log = keeper_log(keeper)
            people, posts = house
            others = [(people + 1, posts), (people, posts[:-1]), (people, posts[::-1]), (people, posts + posts[:1]), EMPTY, WIDE]
            others += [
                (people, tuple(tuple(sorted({*post, p})) if k == at else post for k, post in enumerate(posts)))
                for at, p in missing_by_words(house)]
            others += [
                (people, tuple(tuple(q for q in post if q != p) if k == at else post for k, post in enumerate(posts)))
                for at, post in enumerate(posts) for p in post]
            for other in others:
                if stands_after(other, (), f):
                    told = self.told(other, f, log)
                    right, wrong = right + told, wrong + (not told)
            for other in range(4):
                if stands_after(house, (), other):
                    self.assertEqual(self.told(house, other, log), other == f or not posts)
        self.assertGreater(min(right, wrong), 20)

    def test_keys_put_in_in_another_order(self):
        for house, f, keeper in self.all_keepers(30, 8):
            self.assertTrue(self.told(house, f, reordered(keeper_log(keeper))))

    def test_variants_of_each_entry(self):
        right = 0
        for house, f, keeper in told_keepers():
            log = keeper_log(keeper)
            for k, entry in enumerate(log):
                for other in variants(entry):
                    right += self.told(house, f, log[:k] + [other] + log[k + 1:])
        self.assertGreater(right, 10)

    def test_any_value_in_an_entry(self):
        for house, f, keeper in list(told_keepers())[2:7]:
            log = keeper_log(keeper)
            for k, (call, roster, paper) in enumerate(log):
                for odd in odd_values():
                    for entry in (odd, (odd, roster, paper), (call, odd, paper), (call, roster, odd), (odd, odd, odd)):
                        self.told(house, f, log[:k] + [entry] + log[k + 1:])
                    for other in ((odd,), ("drop", odd), ("let", odd), ("back", odd), ("learn", odd, 0), ("pledge", 1, odd)):
                        self.told(house, f, log[:k] + [(other, roster, paper)])
                    self.told(house, f, log[:k] + [(call, roster, (odd, odd))])
                    self.told(house, f, log[:k] + [(call, roster, (paper, odd))])

    def test_any_value(self):
        for house, f in ((PAIRS, 0), (PAIRS, 1), (EMPTY, 3), (WIDE, 2)):
            log = keeper_log(Keeper(house, f))
            for odd in odd_values():
                if isinstance(odd, list):
                    self.told(house, f, odd)
                else:
                    self.assertIs(is_keeper_log(house, f, odd), False)
                self.told(house, f, [odd])
                self.told(house, f, [*log, odd])
                self.told(house, f, [odd, *log])
                self.told(house, f, [(None, odd, odd)])
            for value in (tuple(log), {0: log[0]}, dict(enumerate(log)), (log,), log[0], str(log)):
                self.assertIs(is_keeper_log(house, f, value), False)
            self.assertFalse(self.told(house, f, [log]))
            self.assertFalse(self.told(house, f, []))

    def test_no_two_lists_or_dicts_of_a_log_are_one(self):
        many = 0
        for _, _, keeper in self.all_keepers(40, 10):
            parts = lists_and_dicts(keeper_log(keeper)) + lists_and_dicts(keeper_log(keeper))
            parts += lists_and_dicts(keeper.strategy())
            self.assertEqual(len({id(part) for part in parts}), len(parts))
            many += len(parts)
        self.assertGreater(many, 300)

    def test_a_changed_log_does_not_change_the_next_one(self):
        for house, f, keeper in self.all_keepers(30, 8):
            log = keeper_log(keeper)
            before = deepcopy(log)
            state = state_of(keeper)
            for part in lists_and_dicts(log)[::-1]:
                part.clear()
            self.assertEqual(log, [])
            self.assertEqual(keeper_log(keeper), before)
            self.assertEqual(state_of(keeper), state)
            self.assertTrue(is_keeper_log(house, f, keeper_log(keeper)))

    def test_values_are_unchanged(self):
        for house, f, keeper in self.all_keepers(20, 8):
            log = keeper_log(keeper)
            before = repr(log)
            self.told(house, f, log)
            self.told(house, f, log + log[-1:])
            self.assertEqual(repr(log), before)

    def test_a_log_does_not_stop_the_keeper(self):
        keeper = Keeper(EASY, 0)
        for call in (("drop", 4), ("pledge", 1, 2), ("let", 3), ("back", 4), ("drop", 1)):
            self.assertTrue(self.told(EASY, 0, keeper_log(keeper)))
            make(keeper, call)
        self.assertEqual(len(keeper_log(keeper)), 6)
        while keeper.undo() is not None:
            self.assertTrue(self.told(EASY, 0, keeper_log(keeper)))

    def test_at_the_limits(self):
        keeper = after(
            EVERYBODY, 0, ("pledge", 2, 1), ("let", 7), ("drop", 0), ("back", 0), ("drop", 1), ("back", 1), ("pledge", 2, 5),
            ("drop", 2), ("drop", 3))
        log = keeper_log(keeper)
        self.assertIsNone(first_keeper_fault(EVERYBODY, 0, log))
        self.assertEqual(log_fault_by_words(EVERYBODY, 0, log), None)
        self.assertEqual(first_keeper_fault(EVERYBODY, 0, log[:6] + log[7:]), 6)
