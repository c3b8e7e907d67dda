"""Stage 14: the cheapest skills with which a house stands dropouts, and books against every cheaper choice."""

from sparehands.houses import is_integer, sets_of_posts, takers
from sparehands.spares import find_narrow, is_narrow

MOST_COST = 9


def missing_pairs(house):
    """Return, ascending, all missing pairs."""
    people, posts = house
    return [(post, person) for post in range(len(posts)) for person in range(people) if person not in posts[post]]


def learned(house, choice):
    """Return the house in which the people of the pairs can take their posts, too."""
    people, posts = house
    return (people, tuple([
        tuple([person for person in range(people) if person in able or (post, person) in choice])
        for post, able in enumerate(posts)]))


def choice_cost(costs, choice):
    """Return the cost of a choice."""
    return sum([costs[post][person] for post, person in choice])


def find_skills(house, f, costs, d):
    """Return a good choice of a cost of at most d, or None."""
    gap = find_gap(house, f, costs, d)
    if gap is None:
        return ()
    _, pairs = gap
    for post, person in pairs:
        pair = (post, person)
        others = find_skills(learned(house, (pair,)), f, costs, d - choice_cost(costs, (pair,)))
        if others is not None:
            return tuple(sorted([pair, *others]))
    return None


def find_skill_book(house, f, costs, d):
    """Return a book of skills for d, or None."""
    gap = find_gap(house, f, costs, d)
    if gap is None:
        return None
    posts, pairs = gap
    pages = {}
    for pair in pairs:
        page = find_skill_book(learned(house, (pair,)), f, costs, d - choice_cost(costs, (pair,)))
        if page is None:
            return None
        pages[pair] = page
    return posts, pages


def least_skill_cost(house, f, costs):
    """Return the least cost of a good choice, or None if none costs at most 9."""
    for d in range(MOST_COST + 1):
        if find_skills(house, f, costs, d) is not None:
            return d
    return None


def is_skill_book(house, f, costs, d, value):
    """Return whether a value of any kind is a book of skills for d."""
    if not isinstance(value, tuple) or len(value) != 2:
        return False
    posts, pages = value
    if not is_narrow(house, (), f, posts) or not isinstance(pages, dict):
        return False
    pairs = widening_pairs(house, costs, d, posts)
    if len(pages) != len(pairs) or not all([is_pair(key) and key in pairs for key in pages]):
        return False
    return all([
        is_skill_book(learned(house, (pair,)), f, costs, d - choice_cost(costs, (pair,)), pages[pair])
        for pair in pairs])


def is_good(house, f, choice):
    """Return whether a choice is good."""
    return find_narrow(learned(house, choice), (), f) is None


def find_gap(house, f, costs, d):
    """Return a narrow set and the pairs of a cost of at most d that widen it, or None if no set is narrow.

    It is one with the fewest such pairs, which keeps the search and the books small.
    """
    gaps = []
    for posts in sets_of_posts(house):
        if is_narrow(house, (), f, posts):
            pairs = widening_pairs(house, costs, d, posts)
            gaps.append((len(pairs), posts, pairs))
    if not gaps:
        return None
    _, posts, pairs = min(gaps)
    return posts, pairs


def widening_pairs(house, costs, d, posts):
    """Return, ascending, the missing pairs of a cost of at most d that bring a further taker to the posts."""
    able = takers(house, (), posts)
    return [
        (post, person) for post, person in missing_pairs(house)
        if post in posts and person not in able and costs[post][person] <= d]


def is_pair(value):
    """Return whether a value of any kind is a tuple of two integers."""
    return isinstance(value, tuple) and len(value) == 2 and is_integer(value[0]) and is_integer(value[1])


def is_missing_pair(house, post, person):
    """Return whether a post and a person, values of any kind, are a missing pair."""
    return is_pair((post, person)) and (post, person) in missing_pairs(house)
