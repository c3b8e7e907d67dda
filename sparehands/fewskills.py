"""Stage 15: all smallest sets of skills with which a house stands dropouts."""

from sparehands.breaks import with_one_left_out
from sparehands.houses import parts_of
from sparehands.skills import is_good


def smallest_skills(house, f, pairs):
    """Return, in ascending order, all smallest choices within the pairs."""
    return [choice for choice in parts_of(pairs) if is_smallest_choice(house, f, choice)]


def is_smallest_choice(house, f, choice):
    """Return whether a choice is good and smallest."""
    # With more pairs a good choice stays good, so it is enough to leave out one pair at a time.
    return is_good(house, f, choice) and not any([is_good(house, f, part) for part in with_one_left_out(choice)])


def needed_skills(house, f, pairs):
    """Return, ascending, the pairs that each good choice within the pairs has, or all if none is good."""
    # If any choice without a pair is good, then the one with all other pairs is.
    return [pair for pair in pairs if not is_good(house, f, tuple([other for other in pairs if other != pair]))]
