"""Stage 13: the fewest moves with which all dropouts can be answered."""

from sparehands.games import Game, can_answer
from sparehands.rosters import all_rosters


def least_r(house, gone, roster, f):
    """Return the least r for which there is a strategy, or None."""
    for r in range(len(house[1]) + 1):
        if can_answer(house, gone, roster, f, r):
            return r
    return None


def ready_rosters(house, f, r):
    """Return, in ascending order, all rosters that are ready."""
    game = Game(house, r)
    return [roster for roster in all_rosters(house, ()) if game.find_breaker((), roster, f) is None]


def least_ready(house, f):
    """Return the least r for which some roster is ready, or None."""
    for r in range(len(house[1]) + 1):
        game = Game(house, r)
        for roster in all_rosters(house, ()):
            if game.find_breaker((), roster, f) is None:
                return r
    return None
