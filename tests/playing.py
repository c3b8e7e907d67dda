"""What the document says of answers to dropouts, word by word and by trying everything."""

from functools import lru_cache
from random import Random

from tests.trying import (
    CHAIN,
    PAIRS,
    WIDE,
    ascending_tuples,
    cases,
    integer_by_words,
    roster_by_words,
    rosters_by_trying,
    some_of,
    there_by_words,
    together,
)


def moves_by_words(one, other):
    return [one[k] != other[k] for k in range(len(one))].count(True)


@lru_cache(maxsize=None)
def fitting(house, gone):
    return tuple(rosters_by_trying(house, gone))


@lru_cache(maxsize=None)
def answers_by_trying(house, gone, roster, person, r):
    """All answers, ascending."""
    return [row for row in fitting(house, together(gone, (person,))) if moves_by_words(row, roster) <= r]


@lru_cache(maxsize=None)
def wins_by_trying(house, gone, roster, f, r):
    """Whether there is a strategy: all dropouts and all answers are tried."""
    if f == 0:
        return True
    return all(
        any(
            wins_by_trying(house, together(gone, (person,)), answer, f - 1, r)
            for answer in answers_by_trying(house, gone, roster, person, r))
        for person in there_by_words(house, gone))


def person_by_words(house, gone, value):
    return integer_by_words(value) and value in there_by_words(house, gone)


def strategy_by_words(house, gone, roster, f, r, value):
    if f == 0:
        return value is None
    if type(value) is not dict or not all(person_by_words(house, gone, key) for key in value):
        return False
    if sorted(value) != there_by_words(house, gone):
        return False
    for person, row in value.items():
        if type(row) is not tuple or len(row) != 2:
            return False
        answer, later = row
        left = together(gone, (person,))
        if not roster_by_words(house, left, answer) or moves_by_words(roster, answer) > r:
            return False
        if not strategy_by_words(house, left, answer, f - 1, r, later):
            return False
    return True


def book_by_words(house, gone, roster, f, r, value):
    if f < 1 or type(value) is not tuple or len(value) != 2:
        return False
    person, pages = value
    if not person_by_words(house, gone, person) or type(pages) is not dict:
        return False
    left = together(gone, (person,))
    if not all(roster_by_words(house, left, key) for key in pages):
        return False
    if sorted(pages) != answers_by_trying(house, gone, roster, person, r):
        return False
    return all(book_by_words(house, left, key, f - 1, r, pages[key]) for key in pages)


def positions(*sizes):
    """All positions (house, gone, roster) of the sizes (people, posts)."""
    for house, gone in cases(*sizes):
        for roster in fitting(house, gone):
            yield house, gone, roster


def small_positions():
    yield from positions((1, 0), (2, 0), (3, 0), (1, 1), (2, 1), (2, 2), (3, 1), (3, 2))
    for house in (PAIRS, WIDE, CHAIN):
        for gone in ascending_tuples(range(house[0])):
            for roster in fitting(house, gone):
                yield house, gone, roster


def chance_positions(many, least, most, posts):
    """Positions in houses with from least to most people and up to so many posts, the same ones in each run."""
    chance = Random(1000 * most + posts)
    found = 0
    while found < many:
        people = chance.randint(least, most)
        part = chance.choice((0.4, 0.6, 0.8, 1))
        house = (people, tuple(some_of(chance, people, part) for _ in range(chance.randint(1, posts))))
        gone = some_of(chance, people, chance.choice((0, 0, 0.2)))
        rosters = fitting(house, gone)
        if rosters:
            found += 1
            yield house, gone, chance.choice(rosters)
