"""Stage 6: who can be away together, and posts that show that no more can."""

from sparehands.houses import is_ascending, joined, sets_of_posts, takers
from sparehands.rosters import find_roster


def is_away(house, gone, some):
    """Return whether some is an away set."""
    return find_roster(house, joined(gone, some)) is not None


def most_away(house, gone, some):
    """Return the greatest number of people of an away set within some."""
    return len(find_most_away(house, gone, some))


def find_most_away(house, gone, some):
    """Return an away set within some with the greatest number of people."""
    # All away sets within some that nobody of some can join are equally large, so each one who can join may.
    away = ()
    for person in some:
        more = joined(away, (person,))
        if is_away(house, gone, more):
            away = more
    return away


def find_limit(house, gone, some):
    """Return a tuple of posts whose limit on some is the greatest number of people of an away set within it."""
    limits = [(limit_of(house, gone, some, posts), posts) for posts in [(), *sets_of_posts(house)]]
    _, least = min(limits)
    return least


def limit_of(house, gone, some, posts):
    """Return the limit of a tuple of posts on some."""
    return len(some) + len(takers(house, joined(gone, some), posts)) - len(posts)


def is_limit(house, gone, some, number, value):
    """Return whether a value of any kind is an ascending tuple of posts whose limit on some is at most the number."""
    return is_ascending(value, len(house[1])) and limit_of(house, gone, some, value) <= number
