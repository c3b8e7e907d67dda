"""Stage 1: houses, rosters, and who can take posts."""

MOST_PEOPLE = 10
MOST_POSTS = 6


def is_integer(value):
    """Return whether a value of any kind is an integer; True and False are none."""
    return isinstance(value, int) and not isinstance(value, bool)


def is_ascending(value, limit):
    """Return whether a value of any kind is an ascending tuple of different integers from 0 to limit - 1."""
    if not isinstance(value, tuple):
        return False
    least = 0
    for item in value:
        if not is_integer(item) or not least <= item < limit:
            return False
        least = item + 1
    return True


def is_house(value):
    """Return whether a value of any kind is a house."""
    if not isinstance(value, tuple) or len(value) != 2:
        return False
    people, posts = value
    if not is_integer(people) or not 1 <= people <= MOST_PEOPLE:
        return False
    if not isinstance(posts, tuple) or len(posts) > MOST_POSTS:
        return False
    return all([is_ascending(post, people) for post in posts])


def is_roster(house, gone, value):
    """Return whether a value of any kind is a roster of the house in which nobody is gone."""
    posts = house[1]
    if not isinstance(value, tuple) or len(value) != len(posts):
        return False
    for post, person in zip(posts, value):
        if not is_integer(person) or person not in post or person in gone:
            return False
    return len(set(value)) == len(value)


def takers(house, gone, posts):
    """Return, ascending, the people who are not gone and can take at least one of the posts."""
    return sorted({person for post in posts for person in house[1][post] if person not in gone})


def is_there(house, gone, value):
    """Return whether a value of any kind is a person of the house who is not gone."""
    return is_integer(value) and 0 <= value < house[0] and value not in gone


def people_there(house, gone):
    """Return, ascending, the people who are not gone."""
    return [person for person in range(house[0]) if person not in gone]


def joined(some, others):
    """Return, ascending, some people and others together; nobody is both."""
    return tuple(sorted([*some, *others]))


def parts_of(items):
    """Return, in ascending order, all ascending tuples of some of the ascending items, () among them."""
    parts = [()]
    for item in items:
        parts = parts + [(*part, item) for part in parts]
    return sorted(parts)


def sets_of_posts(house):
    """Return, in ascending order, all ascending tuples of at least one post."""
    return parts_of(list(range(len(house[1]))))[1:]
