"""Stage 17: what of two houses can be kept up better."""

from sparehands.houses import parts_of
from sparehands.pairs import find_with, possible_pairs
from sparehands.rosters import find_roster


def tidied(house):
    """Return the house in which each post has just the people who stand at it in some roster."""
    people, posts = house
    pairs = possible_pairs(house, ())
    return (people, tuple([
        tuple([person for person in able if (post, person) in pairs])
        for post, able in enumerate(posts)]))


def find_only(one, other):
    """Return a roster of one that is no roster of other, or None."""
    for post, person in possible_pairs(one, ()):
        if person not in other[1][post]:
            return find_with(one, (), post, person)
    return None


def find_worse(one, other):
    """Return some people who may be gone so that some roster of other fits, but none of one, or None."""
    people, posts = one
    # Where one is worse, it is so, too, if everybody outside of the fitting roster of other is gone.
    spare = people - len(posts)
    for gone in parts_of(list(range(people))):
        if len(gone) == spare and find_roster(one, gone) is None and find_roster(other, gone) is not None:
            return gone
    return None


def bears_as_much(one, other):
    """Return whether one is worse than other for no people who are gone."""
    return find_worse(one, other) is None
