"""Stage 3: which people can stand at which posts, and which have to."""

from sparehands.houses import joined
from sparehands.rosters import find_roster, find_short, is_short


def possible_pairs(house, gone):
    """Return, ascending, all pairs that some roster that fits has."""
    pairs = all_pairs(house, gone)
    return [(post, person) for post, person in pairs if find_with(house, gone, post, person) is not None]


def sure_pairs(house, gone):
    """Return, ascending, all pairs that all rosters that fit have."""
    pairs = all_pairs(house, gone)
    return [(post, person) for post, person in pairs if find_without(house, gone, post, person) is None]


def find_with(house, gone, post, person):
    """Return a roster that fits and has the pair, or None."""
    others = find_roster(without_post(house, post), joined(gone, (person,)))
    if others is None:
        return None
    return others[:post] + (person,) + others[post:]


def find_obstacle(house, gone, post, person):
    """Return an obstacle to the pair, or None."""
    short = find_short(without_post(house, post), joined(gone, (person,)))
    if short is None:
        return None
    return tuple([other if other < post else other + 1 for other in short])


def find_without(house, gone, post, person):
    """Return a roster that fits and does not have the pair, or None."""
    return find_roster(without_pair(house, post, person), gone)


def find_need(house, gone, post, person):
    """Return a need of the pair, or None."""
    # Some roster fits in the house itself, so only a set with the post can be short without the pair.
    return find_short(without_pair(house, post, person), gone)


def is_obstacle(house, gone, post, person, value):
    """Return whether a value of any kind is an obstacle to the pair."""
    return is_short(house, joined(gone, (person,)), value) and post not in value


def is_need(house, gone, post, person, value):
    """Return whether a value of any kind is a need of the pair."""
    return is_short(without_pair(house, post, person), gone, value) and post in value


def all_pairs(house, gone):
    """Return, ascending, all pairs, possible or not."""
    posts = house[1]
    return [(post, person) for post in range(len(posts)) for person in posts[post] if person not in gone]


def without_post(house, post):
    """Return the house without the post; the posts behind it move up by one."""
    people, posts = house
    return (people, posts[:post] + posts[post + 1:])


def without_pair(house, post, person):
    """Return the house in which the person cannot take the post."""
    people, posts = house
    others = tuple([other for other in posts[post] if other != person])
    return (people, posts[:post] + (others,) + posts[post + 1:])
