"""Stage 10: how far rosters are apart, and the nearest ones that fit."""

from sparehands.cheapest import find_cheapest, least_roster_cost


def moves_apart(one, other):
    """Return at how many posts two rosters differ."""
    return len([post for post in range(len(one)) if one[post] != other[post]])


def move_costs(house, roster):
    """Return the costs that are 0 for the pairs of the roster and 1 for all others."""
    return tuple([
        tuple([0 if person == holder else 1 for person in post])
        for post, holder in zip(house[1], roster)])


def least_moves(house, gone, roster):
    """Return how many moves the roster is apart from the nearest roster that fits, or None if none fits."""
    return least_roster_cost(house, gone, move_costs(house, roster))


def find_nearest(house, gone, roster):
    """Return a roster that fits and is as few moves apart as can be, or None if none fits."""
    return find_cheapest(house, gone, move_costs(house, roster))


def nearest_rosters(house, gone, roster):
    """Return, in ascending order, all rosters that fit and are as few moves apart as can be."""
    least = least_moves(house, gone, roster)
    if least is None:
        return []
    return rosters_within(house, gone, roster, least)


def rosters_within(house, gone, roster, moves):
    """Return, in ascending order, all rosters that fit and are at most so many moves apart from the roster."""
    rows = [((), moves)]
    needed = len([person for person in roster if person in gone])
    for post, old in zip(house[1], roster):
        if old in gone:
            needed -= 1
        longer = []
        for row, left in rows:
            # Where all moves left are needed for people who are gone, somebody who is there stays.
            able = post if left > needed else (old,)
            for person in able:
                if person not in gone and person not in row:
                    longer.append(((*row, person), left if person == old else left - 1))
        rows = longer
    return [row for row, _ in rows]
