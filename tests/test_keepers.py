"""Stage 18, point [21]."""

import unittest
from copy import deepcopy
from random import Random

from sparehands.errors import InvalidPerson, InvalidSkill, NoPledge, NoRoster, Pledged, TooNarrow
from sparehands.keepers import Keeper
from tests.keeping import Keeping, chance_keepers, make, right_state, some_call, standing_houses, stands_after, state_of
from tests.learning import missing_by_words
from tests.playing import book_by_words, strategy_by_words, wins_by_trying
from tests.trying import (
    CHAIN,
    PAIRS,
    WIDE,
    ascending_tuples,
    houses,
    lists_and_dicts,
    narrow_by_words,
    nested,
    odd_values,
    stands_by_trying,
    there_by_words,
)

EMPTY = (3, ())
EVERYBODY = (8, (tuple(range(8)),) * 5)
# Post 0 can be taken by 0 and 1, post 1 by all but 0: whoever drops out, one move is enough.
EASY = (5, ((0, 1), (1, 2, 3, 4)))


class Examples(unittest.TestCase):
    def test_examples(self):
        keeper = Keeper(PAIRS, 0)
        self.assertEqual(len(keeper), 0)
        self.assertIsNotNone(keeper.drop(1))
        self.assertEqual((keeper.roster(), keeper.gone(), keeper.spare()), ((0, 2), (1,), 0))
        self.assertIsNone(keeper.learn(1, 0))
        self.assertIsNone(keeper.back(1))
        self.assertEqual([keeper.undo(), keeper.undo()], [("back", 1), ("learn", 1, 0)])
        self.assertEqual(keeper.roster(), (0, 2))
        self.assertEqual(keeper.house(), PAIRS)
        with self.assertRaises(InvalidPerson) as caught:
            keeper.drop(1)
        self.assertEqual(caught.exception.person, 1)

    def test_examples_with_a_pledge(self):
        keeper = Keeper(PAIRS, 0)
        self.assertIsNotNone(keeper.drop(2))
        self.assertIsNone(keeper.back(2))
        self.assertEqual(keeper.roster(), (0, 1))
        self.assertIsNone(keeper.pledge(1, 2))
        self.assertEqual(keeper.pledged(), (1, 2))
        self.assertEqual(keeper.drop(0), [0, 1])
        self.assertEqual((keeper.roster(), keeper.pledged()), ((1, 2), None))
        self.assertEqual(keeper.undo(), ("drop", 0))
        self.assertEqual(keeper.pledged(), (1, 2))
        self.assertIsNone(keeper.learn(0, 2))
        self.assertEqual(keeper.pledged(), (1, 2))
        with self.assertRaises(NoPledge) as caught:
            Keeper((1, ((0,),)), 0).pledge(1, 5)
        self.assertEqual(caught.exception.book, (0, {}))


class Beginning(unittest.TestCase):
    def begins(self, house, f):
        """Whether there is a keeper, after that was held against the words."""
        stands = stands_after(house, (), f)
        if stands:
            keeper = Keeping(self, house, f).keeper
            self.assertTrue(stands_by_trying(house, (), f))
            self.assertIsNone(keeper.pledged())
            self.assertIsNone(keeper.strategy())
            self.assertIsNone(keeper.undo())
            self.assertEqual((len(keeper), keeper.gone()), (0, ()))
        else:
            with self.assertRaises(TooNarrow) as caught:
                Keeper(house, f)
            self.assertTrue(narrow_by_words(house, (), f, caught.exception.posts))
        return stands

    def test_each_small_house(self):
        told = {True: 0, False: 0}
        for people, posts in ((1, 0), (3, 0), (1, 1), (2, 2), (3, 1), (3, 2), (2, 3)):
            for house in houses(people, posts):
                for f in range(4):
                    told[self.begins(house, f)] += 1
        self.assertGreater(min(told.values()), 50)

    def test_the_houses_of_the_document(self):
        self.assertEqual([self.begins(PAIRS, f) for f in range(4)], [True, True, False, False])
        self.assertEqual([self.begins(CHAIN, f) for f in range(4)], [True, True, False, False])
        self.assertEqual([self.begins(WIDE, f) for f in range(4)], [True, True, True, False])
        self.assertEqual([self.begins(EMPTY, f) for f in range(4)], [True] * 4)
        self.assertEqual([self.begins(EVERYBODY, f) for f in range(4)], [True] * 4)
        self.assertEqual([self.begins((2, ((0,), (0,))), f) for f in range(4)], [False] * 4)

    def test_keepers_do_not_share_anything(self):
        one, other = Keeper(EASY, 0), Keeper(EASY, 0)
        before = state_of(other)
        one.drop(0)
        one.learn(0, 3)
        one.pledge(1, 2)
        self.assertEqual(state_of(other), before)
        self.assertIsNone(other.undo())


class Calls(unittest.TestCase):
    def test_all_calls_one_after_the_other(self):
        held = Keeping(self, EASY, 1)
        for call in (
                ("drop", 4), ("back", 4), ("let", 3), ("pledge", 1, 2), ("drop", 0), ("learn", 0, 4), ("back", 0),
                ("back", 3), ("pledge", 2, 1), ("let", 2), ("drop", 1), ("drop", 4), ("drop", 3)):
            held.make(*call)
            held.show_strategy()
        while held.done:
            held.take_back()
            held.show_strategy()
        held.take_back()

    def test_drop_without_a_pledge(self):
        held = Keeping(self, CHAIN, 0)
        held.make("drop", 0)
        self.assertEqual(held.keeper.roster(), (1, 2, 3))
        error = held.make("drop", 3)
        self.assertIs(type(error), NoRoster)
        self.assertEqual(error.posts, (0, 1, 2))
        self.assertIsInstance(held.make("drop", 0), InvalidPerson)
        held.take_back()
        self.assertEqual(held.keeper.roster(), Keeper(CHAIN, 0).roster())

    def test_drop_of_somebody_idle_moves_nobody(self):
        keeper = Keeper(WIDE, 0)
        for person in there_by_words(WIDE, ()):
            if person not in keeper.roster():
                roster = keeper.roster()
                self.assertEqual(keeper.drop(person), [])
                self.assertEqual(keeper.roster(), roster)

    def test_drop_does_not_ask_for_the_spare(self):
        # let keeps a spare of 1, drop does not.
        held = Keeping(self, PAIRS, 1)
        self.assertIsInstance(held.make("let", 0), TooNarrow)
        self.assertIsNone(held.make("drop", 0))
        self.assertEqual(held.keeper.spare(), 0)
        self.assertIsInstance(held.make("drop", 1), NoRoster)

    def test_let_without_a_pledge(self):
        held = Keeping(self, WIDE, 1)
        self.assertIsNone(held.make("let", 0))
        self.assertEqual(held.keeper.spare(), 1)
        error = held.make("let", 1)
        self.assertIs(type(error), TooNarrow)
        self.assertTrue(narrow_by_words(WIDE, (0, 1), 1, error.posts))
        self.assertIsInstance(held.make("let", 0), InvalidPerson)

    def test_let_of_everybody_where_there_is_no_post(self):
        held = Keeping(self, EMPTY, 3)
        for person in (2, 0, 1):
            self.assertIsNone(held.make("let", person))
        self.assertEqual((held.keeper.gone(), held.keeper.spare()), ((0, 1, 2), None))
        self.assertIsNone(held.make("pledge", 2, 0))
        self.assertEqual(held.keeper.strategy(), {})
        for person in (1, 2, 0):
            self.assertIsNone(held.make("back", person))
            held.show_strategy()

    def test_let_with_a_pledge(self):
        # Five posts and two dropouts need seven people.
        held = Keeping(self, EVERYBODY, 0)
        self.assertIsNone(held.make("pledge", 2, 1))
        self.assertIsNone(held.make("let", 7))
        self.assertEqual(held.keeper.pledged(), (2, 1))
        error = held.make("let", 6)
        self.assertIs(type(error), Pledged)
        self.assertEqual(error.book[0], 6)
        self.assertEqual(held.keeper.pledged(), (2, 1))
        self.assertEqual(held.keeper.gone(), (7,))
        self.assertIsNone(held.make("pledge", 1, 1))
        self.assertIsNone(held.make("let", 6))
        self.assertIsInstance(held.make("let", 5), Pledged)
        self.assertIsNone(held.make("drop", 5))
        self.assertIsNone(held.keeper.pledged())
        self.assertIsInstance(held.make("let", 4), TooNarrow)

    def test_a_pledge_refuses_what_the_spare_allows(self):
        refused = 0
        for house, _, held in chance_keepers(self, 40, 0):
            for n in (1, 2):
                for r in range(6):
                    if held.make("pledge", n, r) is None:
                        for person in there_by_words(house, held.keeper.gone()):
                            error = held.make("let", person)
                            refused += type(error) is Pledged
                            if error is None:
                                held.show_strategy()
                                held.take_back()
        self.assertGreater(refused, 50)

    def test_the_order_of_the_errors(self):
        # Nobody can be let go, but who is no person of the house is told first.
        held = Keeping(self, PAIRS, 1)
        for person in (3, -1, None, True, "0", (0,), 10 ** 59):
            self.assertIsInstance(held.make("let", person), InvalidPerson)
            self.assertIsInstance(held.make("drop", person), InvalidPerson)
        # With a pledge the spare is asked for first.
        held.make("pledge", 1, 2)
        self.assertIsInstance(held.make("let", 0), TooNarrow)
        held = Keeping(self, PAIRS, 0)
        held.make("pledge", 1, 2)
        self.assertIsInstance(held.make("let", 0), Pledged)
        held.make("drop", 0)
        self.assertIsInstance(held.make("let", 1), TooNarrow)
        self.assertIsInstance(held.make("drop", 0), InvalidPerson)
        self.assertIsInstance(held.make("drop", 1), NoRoster)

    def test_back(self):
        held = Keeping(self, WIDE, 0)
        for person in (0, 1, 2, 3, 4, -1):
            self.assertIsInstance(held.make("back", person), InvalidPerson)
        held.make("drop", 1)
        roster = held.keeper.roster()
        self.assertIsNone(held.make("back", 1))
        self.assertEqual(held.keeper.roster(), roster)
        self.assertIsInstance(held.make("back", 1), InvalidPerson)

    def test_learn(self):
        held = Keeping(self, PAIRS, 0)
        for post, person in ((0, 0), (0, 1), (1, 1), (1, 2), (2, 0), (-1, 0), (0, 3), (0, -1), (1, -3), (-2, 2)):
            self.assertIsInstance(held.make("learn", post, person), InvalidSkill)
        self.assertIsNone(held.make("learn", 0, 2))
        self.assertIsInstance(held.make("learn", 0, 2), InvalidSkill)
        self.assertEqual(held.keeper.house(), (3, ((0, 1, 2), (1, 2))))
        self.assertIsNone(held.make("drop", 0))
        self.assertIsNone(held.make("learn", 1, 0))
        self.assertEqual(held.keeper.house(), (3, ((0, 1, 2), (0, 1, 2))))

    def test_what_was_learned_is_used(self):
        held = Keeping(self, (2, ((0,),)), 0)
        self.assertIsInstance(held.make("drop", 0), NoRoster)
        self.assertIsInstance(held.make("pledge", 1, 1), NoPledge)
        held.make("learn", 0, 1)
        self.assertIsNone(held.make("pledge", 1, 1))
        self.assertIsNone(held.make("drop", 0))
        self.assertEqual(held.keeper.roster(), (1,))

    def test_pledges(self):
        held = Keeping(self, CHAIN, 0)
        for n, r in ((1, 0), (1, 1), (2, 5), (2, 0)):
            error = held.make("pledge", n, r)
            self.assertIs(type(error), NoPledge)
            self.assertTrue(book_by_words(CHAIN, (), held.keeper.roster(), n, r, error.book))
        self.assertIsNone(held.make("pledge", 1, 3))
        self.assertIsInstance(held.make("pledge", 2, 5), NoPledge)
        self.assertEqual(held.keeper.pledged(), (1, 3))
        self.assertIsNone(held.make("pledge", 1, 5))
        self.assertEqual(held.keeper.pledged(), (1, 5))
        held.take_back()
        self.assertEqual(held.keeper.pledged(), (1, 3))

    def test_a_pledge_counts_dropouts_only(self):
        held = Keeping(self, EVERYBODY, 0)
        held.make("pledge", 2, 1)
        for call, pledge in (
                (("let", 7), (2, 1)), (("drop", 0), (1, 1)), (("back", 0), (1, 1)), (("let", 1), (1, 1)), (("back", 7), (1, 1)),
                (("drop", 2), None), (("drop", 3), None)):
            self.assertIsNone(held.make(*call))
            self.assertEqual(held.keeper.pledged(), pledge)
            held.show_strategy()

    def test_what_a_refused_call_leaves(self):
        held = Keeping(self, PAIRS, 1)
        held.make("learn", 0, 2)
        for call in (("drop", 7), ("let", 0), ("back", 0), ("learn", 0, 2), ("pledge", 2, 0), ("let", None), ("learn", 5, 5)):
            self.assertIsNotNone(held.make(*call))
        held.take_back()
        held.take_back()


class Histories(unittest.TestCase):
    def test_chance_histories(self):
        chance = Random(21)
        told = {}
        for house, f in standing_houses(250, 3, 6, 3):
            held = Keeping(self, house, f)
            for _ in range(25):
                if chance.random() < 0.15:
                    held.take_back()
                    continue
                call = some_call(chance, held.keeper)
                pledged = held.keeper.pledged() is not None
                error = held.make(*call)
                key = (call[0], type(error), pledged)
                told[key] = told.get(key, 0) + 1
                held.show_strategy()
            while held.done:
                held.take_back()
            held.take_back()
        none = type(None)
        for kind, errors in (
                ("drop", (InvalidPerson, NoRoster)), ("let", (InvalidPerson, TooNarrow)), ("back", (InvalidPerson,)),
                ("learn", (InvalidSkill,)), ("pledge", (NoPledge,))):
            for error in (none, *errors):
                for pledged in (True, False):
                    if (error, pledged) != (NoRoster, True):
                        self.assertGreater(told.get((kind, error, pledged), 0), 10, (kind, error, pledged))
        self.assertGreater(told.get(("let", Pledged, True), 0), 10)
        self.assertNotIn(("drop", NoRoster, True), told)

    def test_large_houses(self):
        chance = Random(22)
        for house, f in standing_houses(6, 7, 8, 5):
            held = Keeping(self, house, f)
            for _ in range(8):
                call = some_call(chance, held.keeper)
                # All answers to three dropouts are too many to try here.
                held.make(*(("pledge", 1, call[2]) if call[0] == "pledge" else call))
            while held.done:
                held.take_back()

    def test_each_dropout_under_a_pledge(self):
        # Between the dropouts people come back and learn.
        followed = 0
        for house, f in standing_houses(60, 3, 6, 3):
            for n in (1, 2):
                for r in range(len(house[1]) + 1):
                    held = Keeping(self, house, f)
                    if held.make("pledge", n, r) is None:
                        followed += self.follow(held, n, r)
        self.assertGreater(followed, 500)

    def follow(self, held, n, r):
        """Let each one drop out after the other n times, and return how often it was tried."""
        if n == 0:
            self.assertIsNone(held.keeper.pledged())
            return 1
        self.assertEqual(held.keeper.pledged(), (n, r))
        held.show_strategy()
        tried = 0
        for person in there_by_words(held.keeper.house(), held.keeper.gone()):
            many = len(held.done)
            before = held.keeper.roster()
            changed = held.keeper.drop(person)
            self.assertLessEqual(len(changed), r)
            self.assertEqual(len([k for k in range(len(before)) if held.keeper.roster()[k] != before[k]]), len(changed))
            held.keeper.undo()
            self.assertIsNone(held.make("drop", person))
            if n == 2:
                missing = missing_by_words(held.keeper.house())
                if missing:
                    self.assertIsNone(held.make("learn", *missing[person % len(missing)]))
                if person % 2:
                    self.assertIsNone(held.make("back", person))
            tried += self.follow(held, n - 1, r)
            while len(held.done) > many:
                held.take_back()
        return tried

    def test_undo_from_the_last_call_to_the_first(self):
        for _, _, held in chance_keepers(self, 40, 12):
            while held.done:
                held.take_back()
            held.take_back()
            held.take_back()
            self.assertEqual(len(held.keeper), 0)

    def test_calls_after_undo(self):
        keeper = Keeper(EASY, 0)
        keeper.drop(0)
        first = state_of(keeper)
        keeper.drop(2)
        keeper.undo()
        keeper.undo()
        keeper.drop(0)
        self.assertEqual(state_of(keeper), first)
        self.assertEqual([keeper.undo(), keeper.undo()], [("drop", 0), None])


class AnyValue(unittest.TestCase):
    def keepers(self):
        yield Keeping(self, PAIRS, 0)
        held = Keeping(self, WIDE, 1)
        held.make("let", 1)
        yield held
        held = Keeping(self, (4, ((0, 2), (0, 1))), 0)
        held.make("drop", 1)
        held.make("pledge", 1, 2)
        yield held

    def test_any_person(self):
        for odd in odd_values() + [nested(18, [0]), [1], (1, 1), 10 ** 59]:
            for held in self.keepers():
                for kind in ("drop", "let", "back"):
                    if held.make(kind, odd) is None:
                        held.take_back()
                    for value in ((odd,), [odd], {0: odd}):
                        self.assertIsInstance(held.make(kind, value), InvalidPerson)

    def test_any_skill(self):
        for odd in odd_values():
            for held in self.keepers():
                for post, person in ((odd, 0), (0, odd), (odd, odd), (1, odd), (odd, 1), ([odd], 2), (1, (odd,))):
                    if held.make("learn", post, person) is None:
                        held.take_back()

    def test_bools_are_no_people_and_no_posts(self):
        held = Keeping(self, (2, ((0, 1),)), 0)
        for person in (True, False):
            for kind in ("drop", "let", "back"):
                error = held.make(kind, person)
                self.assertIsInstance(error, InvalidPerson)
                self.assertIs(error.person, person)
        held.make("drop", 1)
        self.assertIsInstance(held.make("back", True), InvalidPerson)
        held = Keeping(self, (2, ((0,), (1,))), 0)
        for post, person in ((False, 1), (0, True), (True, 0), (1, False), (True, False)):
            error = held.make("learn", post, person)
            self.assertIsInstance(error, InvalidSkill)
            self.assertIs(error.post, post)
            self.assertIs(error.person, person)
        self.assertIsNone(held.make("learn", 0, 1))

    def test_values_are_unchanged(self):
        for odd in odd_values():
            before = deepcopy(odd)
            for held in self.keepers():
                for kind in ("drop", "let", "back"):
                    held.make(kind, odd)
                held.make("learn", odd, odd)
            self.assertEqual(repr(odd), repr(before))


class Results(unittest.TestCase):
    def test_told_lists_and_dicts_may_be_changed(self):
        changed = 0
        for _, _, held in chance_keepers(self, 60, 6):
            keeper = held.keeper
            before = state_of(keeper)
            strategy = keeper.strategy()
            for person in there_by_words(keeper.house(), keeper.gone()):
                try:
                    told = keeper.drop(person)
                except NoRoster:
                    continue
                expected = list(told)
                told.append("changed")
                keeper.undo()
                self.assertEqual(keeper.drop(person), expected)
                keeper.undo()
            for part in lists_and_dicts(keeper.strategy()):
                part.clear()
                part["changed"] = None
                changed += 1
            self.assertEqual(keeper.strategy(), strategy)
            self.assertEqual(state_of(keeper), before)
        self.assertGreater(changed, 20)

    def test_no_two_dicts_of_a_strategy_or_a_book_are_one(self):
        told = []
        for _, _, held in chance_keepers(self, 30, 4):
            keeper = held.keeper
            found = [keeper.strategy(), keeper.strategy()]
            for n in (1, 2):
                for r in range(4):
                    try:
                        keeper.pledge(n, r)
                        keeper.undo()
                    except NoPledge as error:
                        found.append(error.book)
            parts = lists_and_dicts(found)[1:]
            self.assertEqual(len({id(part) for part in parts}), len(parts))
            told += parts
        self.assertGreater(len(told), 100)

    def test_a_changed_book_does_not_change_the_next_one(self):
        keeper = Keeper(WIDE, 0)
        keeper.drop(0)
        books = []
        for _ in range(2):
            with self.assertRaises(NoPledge) as caught:
                keeper.pledge(2, 2)
            books.append(deepcopy(caught.exception.book))
            caught.exception.book[1].clear()
        self.assertEqual(books[0], books[1])
        self.assertTrue(book_by_words(WIDE, (0,), keeper.roster(), 2, 2, books[1]))

    def test_kinds_of_results(self):
        for _, _, held in chance_keepers(self, 40, 8):
            keeper = held.keeper
            self.assertEqual([type(part) for part in (keeper.house(), keeper.roster(), keeper.gone())], [tuple] * 3)
            self.assertIn(type(keeper.pledged()), (tuple, type(None)))
            self.assertIn(type(keeper.strategy()), (dict, type(None)))
            self.assertIs(type(keeper.spare()), int)
            self.assertIs(type(len(keeper)), int)


class Equality(unittest.TestCase):
    def equal(self, one, other, expected):
        """Hold == and != against what is expected, asked both ways."""
        self.assertIs(one == other, expected)
        self.assertIs(other == one, expected)
        self.assertIs(one != other, not expected)
        self.assertIs(other != one, not expected)

    def after(self, house, f, *calls):
        keeper = Keeper(house, f)
        for call in calls:
            make(keeper, call)
        return keeper

    def test_equal_keepers(self):
        self.equal(Keeper(PAIRS, 0), Keeper((3, ((0, 1), (1, 2))), 0), True)
        keeper = Keeper(PAIRS, 0)
        self.equal(keeper, keeper, True)
        # The ways to where they are now do not count, neither does what may be taken back.
        self.equal(self.after(WIDE, 0, ("drop", 2), ("drop", 3)), self.after(WIDE, 0, ("let", 3), ("let", 2)), True)
        self.equal(self.after(WIDE, 0, ("drop", 3), ("back", 3)), Keeper(WIDE, 0), True)
        self.equal(self.after(WIDE, 0, ("pledge", 1, 1), ("drop", 3)), self.after(WIDE, 0, ("drop", 3)), True)
        self.equal(self.after(PAIRS, 0, ("learn", 0, 2)), Keeper((3, ((0, 1, 2), (1, 2))), 0), True)

    def test_each_difference_counts(self):
        self.equal(Keeper(PAIRS, 0), Keeper(PAIRS, 1), False)
        self.equal(Keeper(PAIRS, 0), Keeper(CHAIN, 0), False)
        self.equal(Keeper(PAIRS, 0), self.after(PAIRS, 0, ("learn", 0, 2)), False)
        self.equal(Keeper(WIDE, 0), self.after(WIDE, 0, ("drop", 3)), False)
        self.equal(self.after(WIDE, 0, ("drop", 2)), self.after(WIDE, 0, ("drop", 3)), False)
        self.equal(Keeper(WIDE, 0), self.after(WIDE, 0, ("pledge", 1, 1)), False)
        self.equal(self.after(WIDE, 0, ("pledge", 1, 1)), self.after(WIDE, 0, ("pledge", 2, 1)), False)
        self.equal(self.after(WIDE, 0, ("pledge", 1, 1)), self.after(WIDE, 0, ("pledge", 1, 2)), False)
        # Everybody is there again, but the roster is another one.
        one = Keeper(WIDE, 0)
        other = self.after(WIDE, 0, ("drop", one.roster()[0]), ("back", one.roster()[0]))
        self.assertNotEqual(one.roster(), other.roster())
        self.equal(one, other, False)

    def test_a_keeper_beside_other_values(self):
        for keeper in (Keeper(PAIRS, 0), Keeper(EMPTY, 0), self.after(WIDE, 0, ("pledge", 1, 1))):
            others = odd_values() + [keeper.house(), keeper.roster(), list(state_of(keeper)), state_of(keeper), object(), Keeper]
            for other in others:
                self.equal(keeper, other, False)

    def test_against_the_five_parts(self):
        found = [(held.f, state_of(held.keeper)[:4], held.keeper) for _, _, held in chance_keepers(self, 25, 3)]
        found += [(held.f, state_of(held.keeper)[:4], held.keeper) for _, _, held in chance_keepers(self, 25, 1)]
        found += [(held.f, state_of(held.keeper)[:4], held.keeper) for _, _, held in chance_keepers(self, 25, 0)]
        equal = 0
        for one, told, keeper in found:
            for other, also, second in found:
                self.equal(keeper, second, (one, told) == (other, also))
                equal += (one, told) == (other, also)
        self.assertGreater(equal, len(found) + 10)

    def test_equal_keepers_answer_equally(self):
        one = self.after(EASY, 0, ("drop", 4), ("let", 3), ("back", 4), ("pledge", 1, 2))
        other = self.after(EASY, 0, ("let", 3), ("pledge", 1, 2))
        self.equal(one, other, True)
        for keeper in (one, other):
            keeper.drop(1)
        self.equal(one, other, True)
        self.assertEqual(state_of(one), state_of(other))
        chance = Random(23)
        for house, f in standing_houses(40, 3, 6, 3):
            one, other = Keeper(house, f), Keeper(house, f)
            for _ in range(8):
                call = some_call(chance, one)
                told = []
                for keeper in (one, other):
                    try:
                        told.append(make(keeper, call))
                    except ValueError as error:
                        told.append((type(error), vars(error)))
                self.assertEqual(told[0], told[1])
                self.assertEqual((state_of(one), one.strategy()), (state_of(other), other.strategy()))
                self.equal(one, other, True)

    def test_len(self):
        keeper = Keeper(WIDE, 0)
        for many, person in ((1, 3), (2, 0)):
            keeper.drop(person)
            self.assertEqual(len(keeper), many)
        keeper.back(3)
        self.assertEqual(len(keeper), 1)
        keeper.undo()
        self.assertEqual(len(keeper), 2)


class Limits(unittest.TestCase):
    def test_at_the_limits(self):
        keeper = Keeper(EVERYBODY, 3)
        self.assertIsNone(keeper.pledge(2, 1))
        self.assertTrue(strategy_by_words(EVERYBODY, (), keeper.roster(), 2, 1, keeper.strategy()))
        with self.assertRaises(TooNarrow):
            keeper.let(0)
        for person in keeper.roster()[:2]:
            self.assertEqual(len(keeper.drop(person)), 1)
        self.assertTrue(right_state(state_of(keeper)))
        with self.assertRaises(NoPledge) as caught:
            keeper.pledge(2, 5)
        self.assertTrue(book_by_words(EVERYBODY, keeper.gone(), keeper.roster(), 2, 5, caught.exception.book))

    def test_somewhat_beyond_the_limits(self):
        house = (9, (tuple(range(9)),) * 6)
        keeper = Keeper(house, 3)
        self.assertIsNone(keeper.pledge(3, 6))
        self.assertEqual(keeper.pledged(), (3, 6))
        for person, left in ((keeper.roster()[0], (2, 6)), (keeper.roster()[1], (1, 6)), (keeper.roster()[2], None)):
            keeper.drop(person)
            self.assertEqual(keeper.pledged(), left)
        self.assertEqual(keeper.spare(), 0)
        self.assertRaises(TooNarrow, Keeper, (5, ((0, 1, 2, 3),)), 4)
        self.assertEqual(Keeper((5, ((0, 1, 2, 3, 4),)), 4).spare(), 4)

    def test_who_drops_out_under_a_pledge_is_answered_with_few_moves(self):
        # Somebody idle moves nobody where that leaves a strategy.
        for house, f in standing_houses(40, 3, 6, 3):
            keeper = Keeper(house, f)
            for r in (1, 2, 3):
                if wins_by_trying(house, (), keeper.roster(), 1, r):
                    keeper.pledge(1, r)
                    for person in there_by_words(house, ()):
                        if person not in keeper.roster():
                            self.assertEqual(keeper.drop(person), [])
                            keeper.undo()
                    keeper.undo()

    def test_all_who_may_be_gone(self):
        for gone in ascending_tuples(range(4)):
            held = Keeping(self, WIDE, 0)
            for person in gone[:2]:
                self.assertIsNone(held.make("drop", person))
            for person in gone[2:]:
                self.assertIsInstance(held.make("drop", person), NoRoster)
