"""Stage 18: a keeper, which keeps a roster through dropouts, leaves, returns, new skills and pledges."""

from sparehands.errors import InvalidPerson, InvalidSkill, NoPledge, NoRoster, Pledged, TooNarrow
from sparehands.games import Game, find_book, find_strategy
from sparehands.houses import is_integer, is_there, joined
from sparehands.nearest import find_nearest
from sparehands.rosters import find_roster, find_short
from sparehands.skills import is_missing_pair, learned
from sparehands.spares import find_narrow, least_spare


class Keeper:
    """A roster of a house and what became of it.

    A state is a tuple (house, roster, gone, pledge). The states begin with the first one,
    and behind it stands the state after each call that was not taken back.
    """

    def __init__(self, house, f):
        narrow = find_narrow(house, (), f)
        if narrow is not None:
            raise TooNarrow(narrow)
        self.wished = f
        self.calls = []
        self.states = [(house, find_roster(house, ()), (), None)]

    def drop(self, person):
        """Let a person drop out, and return the posts whose person has changed."""
        house, roster, gone, pledge = self.states[-1]
        if not is_there(house, gone, person):
            raise InvalidPerson(person)
        later = joined(gone, (person,))
        short = find_short(house, later)
        if short is not None:
            raise NoRoster(short)
        if pledge is None:
            answer = find_nearest(house, later, roster)
        else:
            n, r = pledge
            answer = Game(house, r).find_answer(gone, roster, person, n)
        return self.go_on(("drop", person), answer)

    def let(self, person):
        """Let a person go if the wishes and the pledge allow it, and return the posts whose person has changed."""
        house, roster, gone, pledge = self.states[-1]
        if not is_there(house, gone, person):
            raise InvalidPerson(person)
        later = joined(gone, (person,))
        narrow = find_narrow(house, later, self.wished)
        if narrow is not None:
            raise TooNarrow(narrow)
        if pledge is None:
            answer = find_nearest(house, later, roster)
        else:
            n, r = pledge
            game = Game(house, r)
            answer = game.find_answer(gone, roster, person, n + 1)
            if answer is None:
                raise Pledged(game.make_book_from(gone, roster, person, n + 1))
        return self.go_on(("let", person), answer)

    def back(self, person):
        """Let a person who is gone be there again."""
        _, roster, gone, _ = self.states[-1]
        if not is_one_of(gone, person):
            raise InvalidPerson(person)
        self.go_on(("back", person), roster)

    def learn(self, post, person):
        """Let a person be able to take a post from now on."""
        house, roster, _, _ = self.states[-1]
        if not is_missing_pair(house, post, person):
            raise InvalidSkill(post, person)
        self.go_on(("learn", post, person), roster)

    def pledge(self, n, r):
        """Pledge that each of the next n dropouts is answered with at most r moves."""
        house, roster, gone, _ = self.states[-1]
        book = find_book(house, gone, roster, n, r)
        if book is not None:
            raise NoPledge(book)
        self.go_on(("pledge", n, r), roster)

    def house(self):
        """Return the house as it is now."""
        return self.states[-1][0]

    def roster(self):
        """Return the roster."""
        return self.states[-1][1]

    def gone(self):
        """Return, ascending, those who are gone."""
        return self.states[-1][2]

    def pledged(self):
        """Return the pledge that is in force, or None."""
        return self.states[-1][3]

    def spare(self):
        """Return the least spare now, or None if there is no post."""
        house, _, gone, _ = self.states[-1]
        return least_spare(house, gone)

    def strategy(self):
        """Return a strategy for the pledge that is in force, or None."""
        return strategy_for(self.states[-1])

    def undo(self):
        """Take back the last call that was not taken back, and return it, or None if there is none."""
        if len(self.calls) == 0:
            return None
        self.states.pop()
        return self.calls.pop()

    def go_on(self, call, roster):
        """Keep a call and the roster after it, and return the posts whose person has changed."""
        before = self.states[-1]
        self.calls.append(call)
        self.states.append(state_after(before, call, roster))
        return [post for post in range(len(roster)) if roster[post] != before[1][post]]

    def __len__(self):
        return len(self.states[-1][2])

    def __eq__(self, other):
        return isinstance(other, Keeper) and self.wished == other.wished and self.states[-1] == other.states[-1]


def state_after(state, call, roster):
    """Return the state (house, roster, gone, pledge) after a call that may be made and that leads to the roster."""
    house, _, gone, pledge = state
    if call[0] == "learn":
        return learned(house, (call[1:],)), roster, gone, pledge
    if call[0] == "pledge":
        return house, roster, gone, call[1:]
    if call[0] == "back":
        return house, roster, tuple([person for person in gone if person != call[1]]), pledge
    if call[0] == "drop":
        pledge = pledge_after_drop(pledge)
    return house, roster, joined(gone, call[1:]), pledge


def pledge_after_drop(pledge):
    """Return the pledge that is in force after a dropout, or None."""
    if pledge is None:
        return None
    n, r = pledge
    if n == 1:
        return None
    return n - 1, r


def strategy_for(state):
    """Return a strategy for the pledge that is in force in a state, or None if none is."""
    house, roster, gone, pledge = state
    if pledge is None:
        return None
    n, r = pledge
    return find_strategy(house, gone, roster, n, r)


def is_one_of(gone, value):
    """Return whether a value of any kind is one of those who are gone."""
    return is_integer(value) and value in gone
