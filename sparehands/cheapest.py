"""Stage 5: rosters that cost the least, and prices that show that none costs less."""

from sparehands.houses import is_integer, people_there
from sparehands.rosters import fill_next


def cost_of(house, costs, roster):
    """Return the cost of a roster."""
    return sum([costs[post][house[1][post].index(person)] for post, person in enumerate(roster)])


def least_roster_cost(house, gone, costs):
    """Return the least cost of a roster that fits, or None."""
    roster = find_cheapest(house, gone, costs)
    if roster is None:
        return None
    return cost_of(house, costs, roster)


def find_cheapest(house, gone, costs):
    """Return a roster that fits with the least cost, or None."""
    roster, _ = fill_cheaply(house, gone, costs)
    return roster


def find_prices(house, gone, costs):
    """Return prices that hold and whose worth is the least cost of a roster that fits, or None if none fits."""
    _, prices = fill_cheaply(house, gone, costs)
    return prices


def is_cost_bound(house, gone, costs, number, value):
    """Return whether a value of any kind is prices that hold and whose worth is at least the number."""
    if not is_prices(house, value) or worth_of(house, gone, value) < number:
        return False
    of_posts, of_people = value
    for post, row in enumerate(able_costs(house, gone, costs)):
        for person, cost in row.items():
            if of_posts[post] > cost + of_people[person]:
                return False
    return True


def is_prices(house, value):
    """Return whether a value of any kind is prices."""
    if not isinstance(value, tuple) or len(value) != 2:
        return False
    of_posts, of_people = value
    if not are_integers(of_posts, len(house[1])) or not are_integers(of_people, house[0]):
        return False
    return all([price >= 0 for price in of_people])


def are_integers(value, many):
    """Return whether a value of any kind is a tuple of so many integers."""
    return isinstance(value, tuple) and len(value) == many and all([is_integer(item) for item in value])


def worth_of(house, gone, prices):
    """Return the worth of prices."""
    of_posts, of_people = prices
    return sum(of_posts) - sum([of_people[person] for person in people_there(house, gone)])


def able_costs(house, gone, costs):
    """Return, for each post, the cost for each person who can take it and is not gone."""
    return [
        {person: cost for person, cost in zip(post, row) if person not in gone}
        for post, row in zip(house[1], costs)]


def fill_cheaply(house, gone, costs):
    """Return a roster that fits with the least cost and prices that show it, or None and None.

    The prices hold all the time, each pair of the roster costs just what its two prices say,
    and the price of everybody without a post is 0. So the worth is the cost of the roster.
    """
    able = able_costs(house, gone, costs)
    roster = []
    of_posts = [0] * len(able)
    of_people = [0] * house[0]
    while len(roster) < len(able):
        free, met_at, of_posts, of_people = raise_prices(able, roster, of_posts, of_people)
        if free is None:
            return None, None
        roster = fill_next(roster, met_at, free)
    return tuple(roster), (tuple(of_posts), tuple(of_people))


def raise_prices(able, roster, of_posts, of_people):
    """Raise prices until the first post that the roster leaves open can be filled at them.

    Each step raises the prices of the posts that are reached, and of the people met there, as far as they hold.
    Returns the person without a post who is met at last or None, for each person met the post at which they were met,
    and the raised prices.
    """
    of_posts, of_people = list(of_posts), list(of_people)
    held = {person: post for post, person in enumerate(roster)}
    reached = [len(roster)]
    met_at = {}
    while True:
        steps = [
            (cost + of_people[person] - of_posts[post], person, post)
            for post in reached for person, cost in able[post].items() if person not in met_at]
        if not steps:
            return None, met_at, of_posts, of_people
        step, person, post = min(steps)
        for other in reached:
            of_posts[other] += step
        for other in met_at:
            of_people[other] += step
        met_at[person] = post
        if person not in held:
            return person, met_at, of_posts, of_people
        reached.append(held[person])
