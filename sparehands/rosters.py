"""Stage 2: a roster that fits, or a short set that shows that there is none."""

from sparehands.houses import is_ascending, takers


def find_roster(house, gone):
    """Return a roster that fits, or None."""
    roster, _ = fill_posts(house, gone)
    return roster


def find_short(house, gone):
    """Return a short set, or None."""
    _, short = fill_posts(house, gone)
    return short


def is_short(house, gone, value):
    """Return whether a value of any kind is a short set."""
    # The empty tuple needs no test of its own: it has no takers, and these are not fewer than its posts.
    return is_ascending(value, len(house[1])) and len(takers(house, gone, value)) < len(value)


def all_rosters(house, gone):
    """Return, in ascending order, all rosters that fit."""
    rows = [()]
    for post in house[1]:
        rows = [(*row, person) for row in rows for person in post if person not in gone and person not in row]
    return rows


def fill_posts(house, gone):
    """Return a roster that fits and None, or None and a short set."""
    able = [[person for person in post if person not in gone] for post in house[1]]
    roster = []
    while len(roster) < len(able):
        free, met_at, reached = look_for_free(able, roster)
        if free is None:
            # All who can take a reached post hold one of them, and the open post is held by nobody.
            return None, tuple(sorted(reached))
        roster = fill_next(roster, met_at, free)
    return tuple(roster), None


def look_for_free(able, roster):
    """Look for somebody without a post, from the first post that the roster leaves open.

    Goes on from each post that is reached to the posts of those who can take it.
    Returns the person found or None, for each person met the post at which they were met first,
    and the list of the posts that were reached.
    """
    held = {person: post for post, person in enumerate(roster)}
    reached = [len(roster)]
    met_at = {}
    at = 0
    while at < len(reached):
        here = reached[at]
        for person in able[here]:
            if person in met_at:
                continue
            met_at[person] = here
            if person not in held:
                return person, met_at, reached
            reached.append(held[person])
        at += 1
    return None, met_at, reached


def fill_next(roster, met_at, free):
    """Return the roster with the next post filled, where all on the way move to the post at which they were met."""
    longer = [*roster, None]
    person = free
    while person is not None:
        post = met_at[person]
        leaves = longer[post]
        longer[post] = person
        person = leaves
    return longer
