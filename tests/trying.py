"""What the document says, word by word and by trying everything, to hold the program against."""

from itertools import combinations, permutations, product
from random import Random

PAIRS = (3, ((0, 1), (1, 2)))
WIDE = (4, ((0, 1, 2, 3), (0, 1, 2, 3)))
CHAIN = (4, ((0, 1), (1, 2), (2, 3)))


def ascending_tuples(items):
    """All ascending tuples of different items, () among them."""
    items = sorted(items)
    return [some for size in range(len(items) + 1) for some in combinations(items, size)]


def houses(people, posts):
    """All houses with so many people and posts."""
    return [(people, row) for row in product(ascending_tuples(range(people)), repeat=posts)]


def cases(*sizes):
    """All (house, gone) of the sizes (people, posts)."""
    for people, posts in sizes:
        for house in houses(people, posts):
            for gone in ascending_tuples(range(people)):
                yield house, gone


def small_cases():
    return cases((1, 0), (3, 0), (1, 1), (1, 3), (2, 1), (2, 2), (2, 3), (2, 4), (3, 1), (3, 2), (3, 3), (4, 1), (4, 2))


def large_cases(many):
    """Houses up to the limits, the same ones in each run."""
    chance = Random(20261119)
    for _ in range(many):
        people = chance.randint(4, 10)
        part = chance.choice((0.15, 0.3, 0.5, 0.8))
        posts = tuple(some_of(chance, people, part) for _ in range(chance.randint(3, 6)))
        yield (people, posts), some_of(chance, people, chance.choice((0, 0.1, 0.3)))


def some_of(chance, people, part):
    return tuple(person for person in range(people) if chance.random() < part)


def integer_by_words(value):
    return type(value) is int


def ascending_by_words(value, limit):
    """An ascending tuple of different integers from 0 to limit - 1."""
    return (
        type(value) is tuple
        and all(integer_by_words(item) for item in value)
        and all(0 <= item < limit for item in value)
        and list(value) == sorted(set(value))
    )


def house_by_words(value):
    return (
        type(value) is tuple
        and len(value) == 2
        and integer_by_words(value[0])
        and value[0] in range(1, 11)
        and type(value[1]) is tuple
        and len(value[1]) in range(7)
        and all(ascending_by_words(post, value[0]) for post in value[1])
    )


def roster_by_words(house, gone, value):
    posts = house[1]
    return (
        type(value) is tuple
        and all(integer_by_words(person) for person in value)
        and len(value) == len(posts)
        and len(set(value)) == len(posts)
        and all(value[k] in posts[k] for k in range(len(posts)))
        and not any(person in gone for person in value)
    )


def there_by_words(house, gone):
    """All people who are not gone, ascending."""
    return [person for person in range(house[0]) if person not in gone]


def rosters_by_trying(house, gone):
    """All rosters that fit, ascending."""
    posts = house[1]
    rows = permutations(there_by_words(house, gone), len(posts))
    return [row for row in rows if all(person in post for person, post in zip(row, posts))]


def fitting_cases(*sizes):
    """Small houses in which some roster fits, with all rosters that fit."""
    for house, gone in cases(*sizes) if sizes else small_cases():
        rosters = rosters_by_trying(house, gone)
        if rosters:
            yield house, gone, rosters


def large_fitting_cases(many):
    """Houses up to the limits in which some roster fits."""
    for house, gone in large_cases(many):
        if next((True for _ in rosters_by_steps(house, gone, ())), False):
            yield house, gone


def rosters_by_steps(house, gone, row):
    """All rosters that fit and begin so, one after the other: in large houses there are many."""
    if len(row) == len(house[1]):
        yield row
        return
    for person in house[1][len(row)]:
        if person not in gone and person not in row:
            yield from rosters_by_steps(house, gone, row + (person,))


def together(some, others):
    return tuple(sorted(some + others))


def takers_by_words(house, gone, posts):
    there = there_by_words(house, gone)
    return [person for person in there if any(person in house[1][post] for post in posts)]


def short_by_words(house, gone, value):
    return (
        ascending_by_words(value, len(house[1]))
        and len(value) >= 1
        and len(takers_by_words(house, gone, value)) < len(value)
    )


def obstacle_by_words(house, gone, post, person, value):
    return (
        ascending_by_words(value, len(house[1]))
        and len(value) >= 1
        and post not in value
        and len([taker for taker in takers_by_words(house, gone, value) if taker != person]) < len(value)
    )


def need_by_words(house, gone, post, person, value):
    people, posts = house
    without = [tuple(p for p in posts[k] if (k, p) != (post, person)) for k in range(len(posts))]
    return (
        ascending_by_words(value, len(posts))
        and post in value
        and len(takers_by_words((people, tuple(without)), gone, value)) < len(value)
    )


def pairs_by_words(house, gone):
    posts = house[1]
    return [(k, p) for k in range(len(posts)) for p in sorted(posts[k]) if p not in gone]


def spare_by_words(house, gone, posts):
    return len(takers_by_words(house, gone, posts)) - len(posts)


def tight_by_words(house, gone, value):
    return (
        ascending_by_words(value, len(house[1]))
        and len(value) >= 1
        and spare_by_words(house, gone, value) == 0
    )


def cost_by_words(house, costs, roster):
    return sum(costs[k][house[1][k].index(roster[k])] for k in range(len(roster)))


def prices_by_words(house, value):
    people, posts = house
    return (
        type(value) is tuple
        and len(value) == 2
        and all(type(part) is tuple and all(integer_by_words(price) for price in part) for part in value)
        and [len(part) for part in value] == [len(posts), people]
        and all(price >= 0 for price in value[1])
    )


def cost_bound_by_words(house, gone, costs, number, value):
    if not prices_by_words(house, value):
        return False
    for k, p in pairs_by_words(house, gone):
        if value[0][k] > costs[k][house[1][k].index(p)] + value[1][p]:
            return False
    return sum(value[0]) - sum(value[1][p] for p in there_by_words(house, gone)) >= number


def away_sets_by_trying(house, gone):
    """All away sets, ascending."""
    rosters = [set(roster) for roster in rosters_by_trying(house, gone)]
    parts = ascending_tuples(there_by_words(house, gone))
    return sorted(part for part in parts if any(not roster & set(part) for roster in rosters))


def limit_by_words(house, gone, some, posts):
    others = [p for p in there_by_words(house, gone) if p not in some and any(p in house[1][k] for k in posts)]
    return len(some) + len(others) - len(posts)


def is_limit_by_words(house, gone, some, number, value):
    return ascending_by_words(value, len(house[1])) and limit_by_words(house, gone, some, value) <= number


def levels_by_words(house, gone, wishes):
    there = there_by_words(house, gone)
    wished = [wishes[p] for p in there]
    return [level for level in range(99, 0, -1) if level in wished]


def height_by_words(house, gone, wishes, ceiling):
    levels = levels_by_words(house, gone, wishes)
    height = 0
    for k in range(len(levels)):
        some = tuple(p for p in there_by_words(house, gone) if wishes[p] >= levels[k])
        below = levels[k + 1] if k + 1 < len(levels) else 0
        height += (levels[k] - below) * limit_by_words(house, gone, some, ceiling[k])
    return height


def ceiling_by_words(house, gone, wishes, number, value):
    return (
        type(value) is tuple
        and len(value) == len(levels_by_words(house, gone, wishes))
        and all(ascending_by_words(posts, len(house[1])) for posts in value)
        and height_by_words(house, gone, wishes, value) <= number
    )


def narrow_by_words(house, gone, f, value):
    return (
        ascending_by_words(value, len(house[1]))
        and len(value) >= 1
        and spare_by_words(house, gone, value) < f
    )


def plan_by_words(house, gone, f, value):
    people, posts = house
    if type(value) is not tuple or len(value) != len(posts):
        return False
    if not all(type(entry) is tuple and len(entry) == 2 for entry in value):
        return False
    for k in range(len(posts)):
        roster, further = value[k]
        if not roster_by_words(house, gone, roster) or not ascending_by_words(further, people) or len(further) != f:
            return False
        if any(p in gone or p in roster or p not in posts[k] for p in further):
            return False
    return True


def stands_by_trying(house, gone, f):
    """Whether some roster fits whoever of f people goes beside."""
    if not house[1]:
        return True
    there = there_by_words(house, gone)
    if len(there) < f:
        return False
    return all(rosters_by_trying(house, together(gone, some)) for some in combinations(there, f))


def variants(value):
    """Values that differ from the value in one part, among them ones of other kinds and with bools for integers."""
    if type(value) is int:
        yield from (value + 1, value - 1, -1 - value, 10 ** 59, None, str(value), (value,), [value])
        if value in (0, 1):
            yield bool(value)
    elif value is None:
        yield from (0, False, (), {}, "", (None,), {0: None})
    elif type(value) is tuple:
        yield from (None, (), list(value), value[:-1], value[1:], value[::-1], value * 2, (value,), dict(enumerate(value)))
        yield from (value + (extra,) for extra in (0, None, (), {}, value[-1:]))
        for k, part in enumerate(value):
            yield from (value[:k] + (other,) + value[k + 1:] for other in variants(part))
    elif type(value) is dict:
        yield from (None, {}, (), list(value), list(value.items()), tuple(value.items()), {**value, "more": None})
        yield dict(reversed(list(value.items())))
        for key in value:
            less = {other: value[other] for other in value if other != key}
            yield less
            yield from ({**less, other: value[key]} for other in variants(key) if can_be_key(other))
            yield from ({**value, other: value[key]} for other in variants(key) if can_be_key(other))
            yield from ({**value, key: other} for other in variants(value[key]))


def can_be_key(value):
    return not isinstance(value, (list, dict)) and (type(value) is not tuple or all(can_be_key(item) for item in value))


def lists_and_dicts(value):
    """All lists and dicts within a value, one item for each place at which one stands."""
    if isinstance(value, dict):
        return [value] + [found for key in value for found in lists_and_dicts(value[key])]
    if isinstance(value, (tuple, list)):
        return ([value] if isinstance(value, list) else []) + [found for item in value for found in lists_and_dicts(item)]
    return []


def nested(deep, value):
    for _ in range(deep):
        value = (value,)
    return value


def odd_values():
    """Values of every kind that a function for any value accepts."""
    return [
        None, True, False, 0, 1, 2, 3, -1, 11, 10 ** 60 - 1, -(10 ** 60 - 1),
        "", "0", "01", "(0, 1)", "post",
        (), (0,), (1,), (0, 1), (1, 2), (0, 2), (1, 0), (0, 0), (0, 1, 2), (0, 1, 2, 3), (-1,), (-1, 0), (0, 10 ** 59),
        (True,), (False,), (False, True), (0, True), (False, 1), (None,), (None, None), ("0",), ("0", "1"), ("a", 0),
        ((),), ((), ()), ((0,), (1,)), ((0, 1),), (0, (1,)), ([0], [1]), ([], 0), ({}, {}), (0, {}), (0, {0: 1}),
        [], [0], [0, 1], [0, 2], [(0, 1)], [[0], [1]], [None], [3, [[0, 1], [1, 2]]],
        {}, {0: 1}, {0: 0, 1: 1}, {"people": 3, "posts": ()}, {(0, 1): [0, {1: None}]},
        nested(19, 0), nested(20, ()), [[[[["deep", {}]]]]], tuple(range(20000)), (0,) * 20000, "x" * 5000,
        (3, ()), (3, ((0, 1), (1, 2))), (True, ()), (3, [(0, 1)]), (3, ([0, 1],)), (3, "01"), (3, {}), (3, None),
    ]
