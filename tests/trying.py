"""What the document says, word by word and by trying everything, to hold the program against."""

from itertools import combinations, product
from random import Random

PAIRS = (3, ((0, 1), (1, 2)))
WIDE = (4, ((0, 1, 2, 3), (0, 1, 2, 3)))
CHAIN = (4, ((0, 1), (1, 2), (2, 3)))


def ascending_tuples(items):
    """All ascending tuples of different items, () among them."""
    items = sorted(items)
    return [some for size in range(len(items) + 1) for some in combinations(items, size)]


def houses(people, posts):
    """All houses with so many people and posts."""
    return [(people, row) for row in product(ascending_tuples(range(people)), repeat=posts)]


def cases(*sizes):
    """All (house, gone) of the sizes (people, posts)."""
    for people, posts in sizes:
        for house in houses(people, posts):
            for gone in ascending_tuples(range(people)):
                yield house, gone


def small_cases():
    return cases((1, 0), (3, 0), (1, 1), (1, 3), (2, 1), (2, 2), (2, 3), (2, 4), (3, 1), (3, 2), (3, 3), (4, 1), (4, 2))


def large_cases(many):
    """Houses up to the limits, the same ones in each run."""
    chance = Random(20261119)
    for _ in range(many):
        people = chance.randint(4, 10)
        part = chance.choice((0.15, 0.3, 0.5, 0.8))
        posts = tuple(some_of(chance, people, part) for _ in range(chance.randint(3, 6)))
        yield (people, posts), some_of(chance, people, chance.choice((0, 0.1, 0.3)))


def some_of(chance, people, part):
    return tuple(person for person in range(people) if chance.random() < part)


def integer_by_words(value):
    return type(value) is int


def ascending_by_words(value, limit):
    """An ascending tuple of different integers from 0 to limit - 1."""
    return (
        type(value) is tuple
        and all(integer_by_words(item) for item in value)
        and all(0 <= item < limit for item in value)
        and list(value) == sorted(set(value))
    )


def house_by_words(value):
    return (
        type(value) is tuple
        and len(value) == 2
        and integer_by_words(value[0])
        and value[0] in range(1, 11)
        and type(value[1]) is tuple
        and len(value[1]) in range(7)
        and all(ascending_by_words(post, value[0]) for post in value[1])
    )


def roster_by_words(house, gone, value):
    posts = house[1]
    return (
        type(value) is tuple
        and all(integer_by_words(person) for person in value)
        and len(value) == len(posts)
        and len(set(value)) == len(posts)
        and all(value[k] in posts[k] for k in range(len(posts)))
        and not any(person in gone for person in value)
    )


def rosters_by_trying(house, gone):
    """All rosters that fit, ascending."""
    return [row for row in product(*house[1]) if roster_by_words(house, gone, row)]


def takers_by_words(house, gone, posts):
    there = [person for person in range(house[0]) if person not in gone]
    return [person for person in there if any(person in house[1][post] for post in posts)]


def short_by_words(house, gone, value):
    return (
        ascending_by_words(value, len(house[1]))
        and len(value) >= 1
        and len(takers_by_words(house, gone, value)) < len(value)
    )


def obstacle_by_words(house, gone, post, person, value):
    return (
        ascending_by_words(value, len(house[1]))
        and len(value) >= 1
        and post not in value
        and len([taker for taker in takers_by_words(house, gone, value) if taker != person]) < len(value)
    )


def need_by_words(house, gone, post, person, value):
    people, posts = house
    without = [tuple(p for p in posts[k] if (k, p) != (post, person)) for k in range(len(posts))]
    return (
        ascending_by_words(value, len(posts))
        and post in value
        and len(takers_by_words((people, tuple(without)), gone, value)) < len(value)
    )


def pairs_by_words(house, gone):
    posts = house[1]
    return [(k, p) for k in range(len(posts)) for p in sorted(posts[k]) if p not in gone]


def nested(deep, value):
    for _ in range(deep):
        value = (value,)
    return value


def odd_values():
    """Values of every kind that a function for any value accepts."""
    return [
        None, True, False, 0, 1, 2, 3, -1, 11, 10 ** 60 - 1, -(10 ** 60 - 1),
        "", "0", "01", "(0, 1)", "post",
        (), (0,), (1,), (0, 1), (1, 2), (0, 2), (1, 0), (0, 0), (0, 1, 2), (0, 1, 2, 3), (-1,), (-1, 0), (0, 10 ** 59),
        (True,), (False,), (False, True), (0, True), (False, 1), (None,), (None, None), ("0",), ("0", "1"), ("a", 0),
        ((),), ((), ()), ((0,), (1,)), ((0, 1),), (0, (1,)), ([0], [1]), ([], 0), ({}, {}), (0, {}), (0, {0: 1}),
        [], [0], [0, 1], [0, 2], [(0, 1)], [[0], [1]], [None], [3, [[0, 1], [1, 2]]],
        {}, {0: 1}, {0: 0, 1: 1}, {"people": 3, "posts": ()}, {(0, 1): [0, {1: None}]},
        nested(19, 0), nested(20, ()), [[[[["deep", {}]]]]], tuple(range(20000)), (0,) * 20000, "x" * 5000,
        (3, ()), (3, ((0, 1), (1, 2))), (True, ()), (3, [(0, 1)]), (3, ([0, 1],)), (3, "01"), (3, {}), (3, None),
    ]
