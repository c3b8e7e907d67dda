"""Stage 9: people whose dropout breaks the house."""

from sparehands.houses import joined, parts_of, people_there
from sparehands.rosters import find_roster
from sparehands.spares import least_spare


def is_break(house, gone, people):
    """Return whether the people are a break."""
    return find_roster(house, joined(gone, people)) is None


def smallest_breaks(house, gone):
    """Return, in ascending order, all smallest breaks."""
    found = []
    breaking = {}
    for people in sorted(parts_of(people_there(house, gone)), key=len):
        # Whoever goes beside a break makes a break, so it is enough to leave out one person at a time.
        if any([less in breaking for less in with_one_left_out(people)]):
            breaking[people] = True
        elif is_break(house, gone, people):
            breaking[people] = True
            found.append(people)
    return sorted(found)


def least_break(house, gone):
    """Return the least number of people of a break, or None if there is no break."""
    spare = least_spare(house, gone)
    if spare is None:
        return None
    return spare + 1


def breaks_with(house, gone, person):
    """Return, in ascending order, all smallest breaks that have the person."""
    return [people for people in smallest_breaks(house, gone) if person in people]


def with_one_left_out(items):
    """Return all tuples that are the tuple with one item left out."""
    return [items[:at] + items[at + 1:] for at in range(len(items))]
