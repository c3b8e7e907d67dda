"""What the document says of keepers and their logs, word by word and by trying everything."""

from random import Random

from sparehands.errors import InvalidPerson, InvalidSkill, NoPledge, NoRoster, Pledged, SparehandsError, TooNarrow
from sparehands.keepers import Keeper
from tests.learning import learned_by_words, missing_by_words
from tests.playing import (
    answers_by_trying,
    book_by_words,
    fitting,
    moves_by_words,
    person_by_words,
    strategy_by_words,
    wins_by_trying,
)
from tests.trying import (
    ascending_tuples,
    cost_bound_by_words,
    integer_by_words,
    narrow_by_words,
    plan_by_words,
    roster_by_words,
    short_by_words,
    some_of,
    spare_by_words,
    stands_by_trying,
    there_by_words,
    together,
)


def least_spare_by_words(house, gone):
    return min([spare_by_words(house, gone, row) for row in ascending_tuples(range(len(house[1])))[1:]], default=None)


def stands_after(house, gone, f):
    least = least_spare_by_words(house, gone)
    return least is None or least >= f


def move_costs_by_words(house, roster):
    return tuple(tuple(0 if p == roster[k] else 1 for p in house[1][k]) for k in range(len(house[1])))


def state_of(keeper):
    """All that a keeper tells of itself, but for its strategy."""
    return keeper.house(), keeper.roster(), keeper.gone(), keeper.pledged(), keeper.spare(), len(keeper)


def make(keeper, call):
    """Make a call as undo tells it."""
    return getattr(keeper, call[0])(*call[1:])


def same(one, other):
    """Equal, and of the same kind."""
    return type(one) is type(other) and one == other


def missing_pair_by_words(house, post, person):
    return integer_by_words(post) and integer_by_words(person) and (post, person) in missing_by_words(house)


def right_error(state, f, call, error):
    """Whether a call has to raise just this error; None stands for no error."""
    house, roster, gone = state[:3]
    if call[0] in ("drop", "let"):
        return right_error_of_leaving(state, f, call, error)
    if call[0] == "back" and not (integer_by_words(call[1]) and call[1] in gone):
        return type(error) is InvalidPerson and same(error.person, call[1])
    if call[0] == "learn" and not missing_pair_by_words(house, *call[1:]):
        return type(error) is InvalidSkill and same(error.post, call[1]) and same(error.person, call[2])
    if call[0] == "pledge" and not wins_by_trying(house, gone, roster, *call[1:]):
        return type(error) is NoPledge and book_by_words(house, gone, roster, *call[1:], error.book)
    return error is None


def right_error_of_leaving(state, f, call, error):
    house, roster, gone, pledge = state[:4]
    if not person_by_words(house, gone, call[1]):
        return type(error) is InvalidPerson and same(error.person, call[1])
    later = together(gone, call[1:])
    if call[0] == "drop":
        if not fitting(house, later):
            return type(error) is NoRoster and short_by_words(house, later, error.posts)
        return error is None
    if not stands_after(house, later, f):
        return type(error) is TooNarrow and narrow_by_words(house, later, f, error.posts)
    if pledge is not None and not answers_that_keep(state, call[1], *pledge):
        n, r = pledge
        return (
            type(error) is Pledged
            and book_by_words(house, gone, roster, n + 1, r, error.book)
            and error.book[0] == call[1])
    return error is None


def answers_that_keep(state, person, n, r):
    """All answers to a person that leave a strategy for n and r."""
    house, roster, gone = state[:3]
    answers = answers_by_trying(house, gone, roster, person, r)
    return [answer for answer in answers if wins_by_trying(house, together(gone, (person,)), answer, n, r)]


def rosters_after(state, call):
    """All rosters that a keeper may have after a call that raises nothing."""
    house, roster, gone, pledge = state[:4]
    if call[0] not in ("drop", "let"):
        return [roster]
    if pledge is not None:
        n, r = pledge
        return answers_that_keep(state, call[1], n - 1 if call[0] == "drop" else n, r)
    rosters = fitting(house, together(gone, call[1:]))
    least = min(moves_by_words(roster, other) for other in rosters)
    return [other for other in rosters if moves_by_words(roster, other) == least]


def state_after_by_words(state, call, roster):
    """The house, the roster, who is gone and the pledge after a call."""
    house, _, gone, pledge = state[:4]
    if call[0] in ("drop", "let"):
        gone = together(gone, call[1:])
    if call[0] == "drop" and pledge is not None:
        pledge = None if pledge[0] == 1 else (pledge[0] - 1, pledge[1])
    if call[0] == "back":
        gone = tuple(person for person in gone if person != call[1])
    if call[0] == "learn":
        house = learned_by_words(house, [call[1:]])
    if call[0] == "pledge":
        pledge = call[1:]
    return house, roster, gone, pledge


def right_state(state):
    """Whether a state is one that a keeper may be in."""
    house, roster, gone, pledge, spare, many = state
    return (
        roster_by_words(house, gone, roster)
        and (pledge is None or wins_by_trying(house, gone, roster, *pledge))
        and same(spare, least_spare_by_words(house, gone))
        and many == len(gone))


class Keeping:
    """A keeper all of whose calls are held against the words; for tests."""

    def __init__(self, test, house, f):
        self.test = test
        self.f = f
        self.keeper = Keeper(house, f)
        self.done = []
        state = state_of(self.keeper)
        test.assertEqual((state[0], state[2], state[3]), (house, (), None))
        test.assertTrue(right_state(state), state)

    def make(self, *call):
        """Make a call, and return the error that it raised, or None."""
        before = state_of(self.keeper)
        case = (before, self.f, call)
        error = told = None
        try:
            told = make(self.keeper, call)
        except SparehandsError as raised:
            error = raised
        after = state_of(self.keeper)
        self.test.assertTrue(right_error(before, self.f, call, error), (case, repr(error), error and vars(error)))
        if error is not None:
            self.test.assertEqual(after, before, case)
            return error
        self.test.assertIn(after[1], rosters_after(before, call), case)
        self.test.assertEqual(after[:4], state_after_by_words(before, call, after[1]), case)
        self.test.assertTrue(right_state(after), case)
        changed = [k for k in range(len(after[1])) if before[1][k] != after[1][k]]
        self.test.assertTrue(same(told, changed if call[0] in ("drop", "let") else None), (case, told))
        self.done.append((call, before))
        return None

    def show_strategy(self):
        """Hold the strategy against the words."""
        house, roster, gone, pledge = state_of(self.keeper)[:4]
        told = self.keeper.strategy()
        if pledge is None:
            self.test.assertIsNone(told)
        else:
            self.test.assertTrue(strategy_by_words(house, gone, roster, *pledge, told), (house, gone, roster, pledge))

    def take_back(self):
        """Take back the last call."""
        if not self.done:
            before = state_of(self.keeper)
            self.test.assertIsNone(self.keeper.undo())
            self.test.assertEqual(state_of(self.keeper), before)
            return
        call, before = self.done.pop()
        told = self.keeper.undo()
        self.test.assertEqual(told, call)
        self.test.assertEqual([type(part) for part in told], [type(part) for part in call])
        self.test.assertEqual(state_of(self.keeper), before)


def standing_houses(many, least, most, posts):
    """Houses and an f whose dropouts they stand, the same ones in each run."""
    chance = Random(10 * most + posts)
    found = 0
    while found < many:
        people = chance.randint(least, most)
        part = chance.choice((0.5, 0.7, 0.9))
        house = (people, tuple(some_of(chance, people, part) for _ in range(chance.randint(1, posts))))
        f = chance.choice((0, 0, 1, 1, 2, 3))
        if stands_by_trying(house, (), f) and stands_after(house, (), f):
            found += 1
            yield house, f


def some_call(chance, keeper):
    """Any call with people and posts of the house, mostly one that may be made."""
    house, gone = keeper.house(), keeper.gone()
    there = there_by_words(house, gone)
    kind = chance.choice(("drop", "drop", "let", "let", "back", "back", "learn", "pledge", "pledge"))
    if kind == "pledge":
        return (kind, chance.choice((1, 2)), chance.choice((0, 1, 1, 2, 2, 3, 4, 5)))
    if kind == "learn":
        missing = missing_by_words(house)
        if missing and chance.random() < 0.8:
            return (kind, *chance.choice(missing))
        return (kind, chance.randint(-1, len(house[1])), chance.randint(-1, house[0]))
    people = there if kind != "back" else gone
    if people and chance.random() < 0.9:
        return (kind, chance.choice(people))
    return (kind, chance.randint(-1, house[0]))


def chance_keepers(test, many, steps):
    """Keepers after some calls, some of them taken back, the same ones in each run."""
    chance = Random(19 * steps)
    for house, f in standing_houses(many, 3, 6, 3):
        held = Keeping(test, house, f)
        for _ in range(steps):
            if chance.random() < 0.1:
                held.take_back()
            else:
                held.make(*some_call(chance, held.keeper))
        yield house, f, held


def log_fault_by_words(house, f, value):
    """The number of the first entry that is not right, or None."""
    if value == []:
        return 0
    states = []
    for at, entry in enumerate(value):
        if type(entry) is not tuple or len(entry) != 3:
            return at
        call, roster, paper = entry
        if at == 0:
            if call is not None or not roster_by_words(house, (), roster) or not plan_by_words(house, (), f, paper):
                return 0
            states.append((house, roster, (), None))
            continue
        state = states[-1]
        if not call_by_words(state, call):
            return at
        after = state_after_by_words(state, call, roster)
        if not roster_by_words(after[0], after[2], roster) or not paper_by_words(state, call, after, f, paper):
            return at
        if call[0] in ("back", "learn", "pledge") and roster != state[1]:
            return at
        states.append(after)
    return None


def call_by_words(state, call):
    house, _, gone, _ = state
    if type(call) is not tuple or len(call) not in (2, 3) or type(call[0]) is not str:
        return False
    if call[0] in ("drop", "let"):
        return len(call) == 2 and person_by_words(house, gone, call[1])
    if call[0] == "back":
        return len(call) == 2 and integer_by_words(call[1]) and call[1] in gone
    if call[0] == "learn":
        return len(call) == 3 and missing_pair_by_words(house, *call[1:])
    if call[0] == "pledge":
        return len(call) == 3 and all(integer_by_words(part) for part in call[1:]) and call[1] in (1, 2) and 0 <= call[2] <= 5
    return False


def paper_by_words(before, call, after, f, paper):
    if call[0] in ("back", "learn"):
        return paper is None
    if call[0] == "pledge":
        return strategy_by_words(after[0], after[2], after[1], *call[1:], paper)
    if call[0] == "let":
        if type(paper) is not tuple or len(paper) != 2 or not plan_by_words(after[0], after[2], f, paper[1]):
            return False
        paper = paper[0]
    house, roster, gone = after[:3]
    moves = moves_by_words(before[1], roster)
    if before[3] is not None:
        n, r = before[3]
        left = n - 1 if call[0] == "drop" else n
        return moves <= r and strategy_by_words(house, gone, roster, left, r, paper)
    costs = move_costs_by_words(house, before[1])
    least = cost_bound_by_words(house, gone, costs, moves, paper)
    return least and not cost_bound_by_words(house, gone, costs, moves + 1, paper)
