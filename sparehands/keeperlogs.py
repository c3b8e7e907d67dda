"""Stage 19: logs of keepers, which can be checked without a search."""

from sparehands.cheapest import find_prices, is_cost_bound
from sparehands.games import is_strategy
from sparehands.houses import is_integer, is_roster, is_there
from sparehands.keepers import is_one_of, state_after, strategy_for
from sparehands.nearest import move_costs, moves_apart
from sparehands.skills import is_missing_pair
from sparehands.spares import find_plan, is_plan

MOST_DROPOUTS = 2
MOST_MOVES = 5


def keeper_log(keeper):
    """Return the log of a keeper."""
    house, roster, gone, _ = keeper.states[0]
    log = [(None, roster, find_plan(house, gone, keeper.wished))]
    for at, call in enumerate(keeper.calls):
        before, after = keeper.states[at], keeper.states[at + 1]
        log.append((call, after[1], find_paper(before, call, after, keeper.wished)))
    return log


def first_keeper_fault(house, f, value):
    """Return the number of the first entry that is not right, or None if a list of any values is a log."""
    if len(value) == 0:
        return 0
    state = None
    for at, entry in enumerate(value):
        if not isinstance(entry, tuple) or len(entry) != 3:
            return at
        state = read_first(house, f, entry) if at == 0 else read_next(state, f, entry)
        if state is None:
            return at
    return None


def is_keeper_log(house, f, value):
    """Return whether a value of any kind is a log."""
    return isinstance(value, list) and first_keeper_fault(house, f, value) is None


def read_first(house, f, entry):
    """Return the state at first, or None if a tuple of three values is not right as the first entry."""
    call, roster, paper = entry
    if call is not None or not is_roster(house, (), roster) or not is_plan(house, (), f, paper):
        return None
    return house, roster, (), None


def read_next(state, f, entry):
    """Return the state after an entry, or None if a tuple of three values is not right as this entry."""
    call, roster, paper = entry
    if not is_call(state, call):
        return None
    after = state_after(state, call, roster)
    house, _, gone, _ = after
    if not is_roster(house, gone, roster) or not is_paper(state, call, after, f, paper):
        return None
    if call[0] not in ("drop", "let") and roster != state[1]:
        return None
    return after


def is_call(state, value):
    """Return whether a value of any kind is a call that may be made, but for what its roster and its paper show."""
    house, _, gone, _ = state
    if isinstance(value, tuple) and len(value) == 2:
        word, person = value
        if word == "back":
            return is_one_of(gone, person)
        return word in ("drop", "let") and is_there(house, gone, person)
    if isinstance(value, tuple) and len(value) == 3:
        word, one, other = value
        if word == "learn":
            return is_missing_pair(house, one, other)
        return word == "pledge" and is_within(1, MOST_DROPOUTS, one) and is_within(0, MOST_MOVES, other)
    return False


def is_within(least, most, value):
    """Return whether a value of any kind is an integer within the limits."""
    return is_integer(value) and least <= value <= most


def find_paper(before, call, after, f):
    """Return the paper for a call of a keeper, between the states before and after it."""
    house, _, gone, _ = after
    if call[0] in ("back", "learn"):
        return None
    if call[0] == "pledge":
        return strategy_for(after)
    shown = find_shown(before, after)
    if call[0] == "drop":
        return shown
    return shown, find_plan(house, gone, f)


def is_paper(before, call, after, f, value):
    """Return whether a value of any kind is the right paper for a call, between the states before and after it."""
    house, _, gone, _ = after
    if call[0] in ("back", "learn"):
        return value is None
    if call[0] == "pledge":
        return is_strategy_for(after, value)
    if call[0] == "drop":
        return is_shown(before, after, value)
    if not isinstance(value, tuple) or len(value) != 2:
        return False
    shown, plan = value
    return is_shown(before, after, shown) and is_plan(house, gone, f, plan)


def find_shown(before, after):
    """Return what shows that the answer to somebody who went is right: prices, or with a pledge a strategy."""
    house, _, gone, _ = after
    _, old, _, pledge = before
    if pledge is None:
        return find_prices(house, gone, move_costs(house, old))
    return strategy_for(after)


def is_shown(before, after, value):
    """Return whether a value of any kind shows that the answer to somebody who went is right."""
    house, roster, gone, _ = after
    _, old, _, pledge = before
    moves = moves_apart(old, roster)
    if pledge is None:
        return is_cost_bound(house, gone, move_costs(house, old), moves, value)
    return moves <= pledge[1] and is_strategy_for(after, value)


def is_strategy_for(state, value):
    """Return whether a value of any kind is a strategy for a state, or None where no pledge is in force any more."""
    house, roster, gone, pledge = state
    if pledge is None:
        return value is None
    n, r = pledge
    return is_strategy(house, gone, roster, n, r, value)
