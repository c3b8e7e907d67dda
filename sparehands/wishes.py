"""Stage 7: away sets that meet the heaviest wishes, and ceilings that show that none weighs more."""

from sparehands.away import find_limit, is_away, limit_of
from sparehands.houses import is_ascending, joined, people_there


def levels_of(house, gone, wishes):
    """Return, descending, all different wishes above 0 of people who are not gone."""
    return sorted({wishes[person] for person in people_there(house, gone) if wishes[person] > 0})[::-1]


def heaviest_weight(house, gone, wishes):
    """Return the greatest weight of an away set."""
    return sum([wishes[person] for person in find_heaviest(house, gone, wishes)])


def find_heaviest(house, gone, wishes):
    """Return an away set with the greatest weight."""
    # For each level, as many of those who wish at least so much are away as can be, and no away set meets more.
    away = ()
    for level in levels_of(house, gone, wishes):
        for person in wishing(house, gone, wishes, level):
            more = joined(away, (person,))
            if person not in away and is_away(house, gone, more):
                away = more
    return away


def find_ceiling(house, gone, wishes):
    """Return a ceiling whose height is the greatest weight of an away set."""
    levels = levels_of(house, gone, wishes)
    return tuple([find_limit(house, gone, wishing(house, gone, wishes, level)) for level in levels])


def height_of(house, gone, wishes, ceiling):
    """Return the height of a ceiling."""
    levels = levels_of(house, gone, wishes)
    height = 0
    for level, less, posts in zip(levels, levels[1:] + [0], ceiling):
        height += (level - less) * limit_of(house, gone, wishing(house, gone, wishes, level), posts)
    return height


def is_ceiling(house, gone, wishes, number, value):
    """Return whether a value of any kind is a ceiling whose height is at most the number."""
    if not isinstance(value, tuple) or len(value) != len(levels_of(house, gone, wishes)):
        return False
    if not all([is_ascending(posts, len(house[1])) for posts in value]):
        return False
    return height_of(house, gone, wishes, value) <= number


def wishing(house, gone, wishes, level):
    """Return, ascending, the people who are not gone and wish at least the level."""
    return tuple([person for person in people_there(house, gone) if wishes[person] >= level])
