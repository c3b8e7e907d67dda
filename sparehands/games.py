"""Stage 12: strategies against dropouts with few moves, and books of dropouts against all answers."""

from sparehands.houses import is_roster, is_there, joined, people_there, takers
from sparehands.nearest import moves_apart, rosters_within
from sparehands.spares import find_narrow


class Game:
    """What has been found out about the positions of a house, when each answer may have at most r moves."""

    def __init__(self, setting, limit):
        self.setting = setting
        self.limit = limit
        self.narrows = {}
        self.breakers = {}

    def find_breaker(self, gone, roster, f):
        """Return somebody to whom no answer leaves a strategy against f - 1 more dropouts, or None."""
        key = (gone, roster, f)
        if key not in self.breakers:
            self.breakers[key] = self.search_breaker(gone, roster, f)
        return self.breakers[key]

    def search_breaker(self, gone, roster, f):
        """Return what find_breaker returns, without what is kept for this position."""
        if f == 0:
            return None
        narrow = self.narrow_set(gone, f)
        if narrow is not None:
            # Without one of its takers the set is narrow for one dropout less, whatever the answer is.
            return takers(self.setting, gone, narrow)[0]
        if self.limit >= len(roster):
            # Any roster that fits is an answer then, and so few dropouts leave one.
            return None
        for person in people_there(self.setting, gone):
            if self.find_answer(gone, roster, person, f) is None:
                return person
        return None

    def find_answer(self, gone, roster, person, f):
        """Return an answer to the person that leaves a strategy against f - 1 more dropouts, or None.

        It is one with as few moves as can be. Mostly there is one close by, and most need not be looked at.
        """
        later = joined(gone, (person,))
        for moves in range(min(self.limit, len(roster)) + 1):
            for answer in rosters_within(self.setting, later, roster, moves):
                if self.find_breaker(later, answer, f - 1) is None:
                    return answer
        return None

    def narrow_set(self, gone, f):
        """Return a narrow set, or None."""
        key = (gone, f)
        if key not in self.narrows:
            self.narrows[key] = find_narrow(self.setting, gone, f)
        return self.narrows[key]

    def make_strategy(self, gone, roster, f):
        """Return a strategy for a position that has one."""
        if f == 0:
            return None
        told = {}
        for person in people_there(self.setting, gone):
            answer = self.find_answer(gone, roster, person, f)
            told[person] = (answer, self.make_strategy(joined(gone, (person,)), answer, f - 1))
        return told

    def make_book(self, gone, roster, f):
        """Return a book for a position that has no strategy."""
        return self.make_book_from(gone, roster, self.find_breaker(gone, roster, f), f)

    def make_book_from(self, gone, roster, person, f):
        """Return a book that begins with a person to whom no answer leaves a strategy against f - 1 more dropouts."""
        if f == 1:
            return person, {}
        later = joined(gone, (person,))
        answers = answers_to(self.setting, gone, roster, person, self.limit)
        return person, {answer: self.make_book(later, answer, f - 1) for answer in answers}


def answers_to(house, gone, roster, person, r):
    """Return, in ascending order, all answers to the person."""
    return rosters_within(house, joined(gone, (person,)), roster, r)


def can_answer(house, gone, roster, f, r):
    """Return whether there is a strategy."""
    return Game(house, r).find_breaker(gone, roster, f) is None


def find_strategy(house, gone, roster, f, r):
    """Return a strategy, or None."""
    game = Game(house, r)
    if game.find_breaker(gone, roster, f) is not None:
        return None
    return game.make_strategy(gone, roster, f)


def find_book(house, gone, roster, f, r):
    """Return a book, or None."""
    game = Game(house, r)
    if game.find_breaker(gone, roster, f) is None:
        return None
    return game.make_book(gone, roster, f)


def is_strategy(house, gone, roster, f, r, value):
    """Return whether a value of any kind is a strategy."""
    if f == 0:
        return value is None
    there = people_there(house, gone)
    if not isinstance(value, dict) or len(value) != len(there):
        return False
    if not all([is_there(house, gone, person) for person in value]):
        return False
    return all([is_reply(house, gone, roster, person, f, r, value[person]) for person in there])


def is_reply(house, gone, roster, person, f, r, value):
    """Return whether a value of any kind is what a strategy has for the person."""
    if not isinstance(value, tuple) or len(value) != 2:
        return False
    answer, later = value
    if not is_answer(house, gone, roster, person, r, answer):
        return False
    return is_strategy(house, joined(gone, (person,)), answer, f - 1, r, later)


def is_answer(house, gone, roster, person, r, value):
    """Return whether a value of any kind is an answer to the person."""
    return is_roster(house, joined(gone, (person,)), value) and moves_apart(roster, value) <= r


def is_book(house, gone, roster, f, r, value):
    """Return whether a value of any kind is a book."""
    if f == 0 or not isinstance(value, tuple) or len(value) != 2:
        return False
    person, pages = value
    if not is_there(house, gone, person) or not isinstance(pages, dict):
        return False
    if not all([is_answer(house, gone, roster, person, r, answer) for answer in pages]):
        return False
    if len(pages) != len(answers_to(house, gone, roster, person, r)):
        return False
    later = joined(gone, (person,))
    return all([is_book(house, later, answer, f - 1, r, pages[answer]) for answer in pages])
