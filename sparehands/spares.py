"""Stage 8: how many people posts have to spare, and stand-by plans."""

from sparehands.houses import is_ascending, is_roster, sets_of_posts, takers
from sparehands.rosters import find_roster


def least_spare(house, gone):
    """Return the least spare, or None if there is no post."""
    narrowest = find_narrowest(house, gone)
    if narrowest is None:
        return None
    return narrowest[0]


def find_plan(house, gone, f):
    """Return a plan, or None."""
    plan = [find_entry(house, gone, f, post) for post in range(len(house[1]))]
    if None in plan:
        return None
    return tuple(plan)


def find_narrow(house, gone, f):
    """Return a narrow set, or None."""
    narrowest = find_narrowest(house, gone)
    if narrowest is None or narrowest[0] >= f:
        return None
    return narrowest[1]


def is_plan(house, gone, f, value):
    """Return whether a value of any kind is a plan."""
    if not isinstance(value, tuple) or len(value) != len(house[1]):
        return False
    return all([is_entry(house, gone, f, post, entry) for post, entry in enumerate(value)])


def is_narrow(house, gone, f, value):
    """Return whether a value of any kind is a narrow set."""
    return is_ascending(value, len(house[1])) and value != () and spare_of(house, gone, value) < f


def spare_of(house, gone, posts):
    """Return the spare of an ascending tuple of posts."""
    return len(takers(house, gone, posts)) - len(posts)


def find_narrowest(house, gone):
    """Return the least spare and an ascending tuple of posts that has it, or None if there is no post."""
    return min([(spare_of(house, gone, posts), posts) for posts in sets_of_posts(house)], default=None)


def find_entry(house, gone, f, post):
    """Return a roster that fits and f further people for the post, or None."""
    # The post has f further people beside some roster exactly if it could be filled f more times.
    people, posts = house
    row = find_roster((people, posts + (posts[post],) * f), gone)
    if row is None:
        return None
    return row[:len(posts)], tuple(sorted(row[len(posts):]))


def is_entry(house, gone, f, post, value):
    """Return whether a value of any kind is what a plan has for the post."""
    if not isinstance(value, tuple) or len(value) != 2:
        return False
    roster, further = value
    if not is_roster(house, gone, roster) or not is_ascending(further, house[0]) or len(further) != f:
        return False
    return all([person in house[1][post] and person not in gone and person not in roster for person in further])
