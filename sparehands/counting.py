"""Stage 16: how many rosters fit, and which number each of them has."""

from sparehands.houses import joined
from sparehands.pairs import without_post


def count_rosters(house, gone):
    """Return how many rosters fit."""
    # Rosters of the posts so far that have the same people can be gone on with in the same ways.
    rows = {gone: 1}
    for post in house[1]:
        longer = {}
        for taken, many in rows.items():
            for person in post:
                if person not in taken:
                    key = joined(taken, (person,))
                    longer[key] = longer.get(key, 0) + many
        rows = longer
    return sum([rows[taken] for taken in rows])


def nth_roster(house, gone, i):
    """Return the roster that has so many others before it, or None if there are not so many."""
    if i >= count_rosters(house, gone):
        return None
    row = ()
    before = 0
    while len(row) < len(house[1]):
        for longer, many in next_rows(house, gone, row):
            if i < before + many:
                row = longer
                break
            before += many
    return row


def number_of(house, gone, roster):
    """Return how many rosters that fit are before the roster."""
    before = 0
    for post, holder in enumerate(roster):
        for longer, many in next_rows(house, gone, roster[:post]):
            if longer[post] < holder:
                before += many
    return before


def count_with(house, gone, post, person):
    """Return how many rosters that fit have the person at the post."""
    if person in gone:
        return 0
    return count_rosters(without_post(house, post), joined(gone, (person,)))


def next_rows(house, gone, row):
    """Return, ascending, the row with each person who can take the next post, and how many rosters begin so."""
    people, posts = house
    taken = joined(gone, row)
    return [
        ((*row, person), count_rosters((people, posts[len(row) + 1:]), joined(taken, (person,))))
        for person in posts[len(row)] if person not in taken]
