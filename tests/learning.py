"""What the document says of skills, word by word and by trying everything."""

from functools import lru_cache
from itertools import combinations
from random import Random

from tests.trying import ascending_tuples, integer_by_words, narrow_by_words, some_of, spare_by_words, takers_by_words


def missing_by_words(house):
    people, posts = house
    return [(k, p) for k in range(len(posts)) for p in range(people) if p not in posts[k]]


def learned_by_words(house, choice):
    people, posts = house
    rows = [set(post) for post in posts]
    for post, person in choice:
        rows[post].add(person)
    return (people, tuple(tuple(sorted(row)) for row in rows))


def choice_cost_by_words(costs, choice):
    return sum(costs[post][person] for post, person in choice)


@lru_cache(maxsize=None)
def stands_by_words(house, f):
    return all(spare_by_words(house, (), some) >= f for some in ascending_tuples(range(len(house[1])))[1:])


def good_by_words(house, f, choice):
    return stands_by_words(learned_by_words(house, choice), f)


def choices_by_trying(house, most):
    """All choices of up to so many pairs."""
    missing = missing_by_words(house)
    return [choice for size in range(most + 1) for choice in combinations(missing, size)]


def good_choices_by_trying(house, f):
    """All good choices that may cost up to 9: each pair costs at least 3."""
    return [choice for choice in choices_by_trying(house, 3) if good_by_words(house, f, choice)]


def skill_book_by_words(house, f, costs, d, value):
    if type(value) is not tuple or len(value) != 2:
        return False
    posts, pages = value
    if not narrow_by_words(house, (), f, posts) or type(pages) is not dict:
        return False
    there = takers_by_words(house, (), posts)
    keys = [(k, p) for k, p in missing_by_words(house) if k in posts and p not in there and costs[k][p] <= d]
    if not all(type(key) is tuple and [integer_by_words(part) for part in key] == [True, True] for key in pages):
        return False
    if sorted(pages) != keys:
        return False
    return all(
        skill_book_by_words(learned_by_words(house, [key]), f, costs, d - costs[key[0]][key[1]], pages[key])
        for key in keys)


def some_skill_costs(chance, house):
    return tuple(tuple(chance.randint(3, 9) for _ in range(house[0])) for _ in house[1])


def chance_houses(many, least, most, posts):
    """Houses with from least to most people and up to so many posts, the same ones in each run."""
    chance = Random(100 * most + posts)
    for _ in range(many):
        people = chance.randint(least, most)
        part = chance.choice((0.2, 0.4, 0.6, 0.8))
        yield people, tuple(some_of(chance, people, part) for _ in range(chance.randint(1, posts)))
