"""Point [2]: arguments stay as they are, results are new, and equal calls are answered equally."""

import unittest
from copy import deepcopy

from sparehands import (
    away,
    breaks,
    cheapest,
    comparing,
    counting,
    fewmoves,
    fewskills,
    games,
    houses,
    keeperlogs,
    nearest,
    pairs,
    rosters,
    skills,
    spares,
    tight,
    ways,
    wishes,
)
from tests.learning import missing_by_words
from tests.trying import (
    CHAIN,
    PAIRS,
    WIDE,
    ascending_tuples,
    large_cases,
    lists_and_dicts,
    odd_values,
    pairs_by_words,
    there_by_words,
)

HOUSES = [(PAIRS, ()), (PAIRS, (0,)), (CHAIN, ()), (CHAIN, (2,)), (WIDE, (1, 3)), ((3, ()), (0,))]
OPEN = [(WIDE, ()), (WIDE, (2,)), ((5, ((0, 1, 2, 4), (1, 2, 3))), ()), ((6, ((0, 1, 2, 3, 4, 5), (2, 3, 4, 5))), (3,))]
WITHOUT_A_ROSTER = [(PAIRS, (0, 1)), (CHAIN, (0, 2)), (WIDE, (0, 1, 3)), ((2, ((),)), ())]


def all_cases():
    return HOUSES + OPEN + WITHOUT_A_ROSTER + list(large_cases(120))


def is_small(house):
    """Whether it is a house for stages 12 to 15, and one with few rosters."""
    return house[0] <= 6 and len(house[1]) <= 4


def wishes_of(house):
    return tuple((37 * p + 11) % 6 for p in range(house[0]))


def costs_of(house):
    return tuple(tuple((31 * k + 17 * p + 7 * k * p) % 100 for p in house[1][k]) for k in range(len(house[1])))


def skill_costs_of(house):
    return tuple(tuple(3 + (5 * k + 3 * p) % 7 for p in range(house[0])) for k in range(len(house[1])))


def other_houses(house):
    """Houses with a pair less, and a pair more."""
    for post, person in pairs_by_words(house, ())[-1:]:
        yield pairs.without_pair(house, post, person)
    for pair in missing_by_words(house)[:1]:
        yield skills.learned(house, (pair,))


def calls(house, gone):
    """Calls of all functions that return something else than a bool, as they may be made for the house."""
    roster = rosters.find_roster(house, gone)
    yield houses.takers, (house, gone, tuple(range(len(house[1]))))
    for function in (rosters.find_roster, rosters.find_short, spares.least_spare):
        yield function, (house, gone)
    for function in (cheapest.least_roster_cost, cheapest.find_cheapest, cheapest.find_prices):
        yield function, (house, gone, costs_of(house))
    yield counting.count_rosters, (house, gone)
    for i in (0, 1, 7):
        yield counting.nth_roster, (house, gone, i)
    for post, person in pairs_by_words(house, ())[:3]:
        yield counting.count_with, (house, gone, post, person)
    for other in (house, *other_houses(house)):
        for function in (comparing.find_only, comparing.find_worse):
            yield function, (house, other)
    yield comparing.tidied, (house,)
    for f in (0, 1, 2, 9):
        for function in (spares.find_plan, spares.find_narrow):
            yield function, (house, gone, f)
    if is_small(house):
        for f, r in ((0, 0), (1, 1), (2, 1), (3, 2)):
            yield fewmoves.ready_rosters, (house, f, r)
            yield fewmoves.least_ready, (house, f)
        yield from calls_of_skills(house)
    if rosters.find_roster(house, ()) is not None:
        yield from calls_between_rosters(house, gone)
    if roster is not None:
        yield cheapest.cost_of, (house, costs_of(house), roster)
        yield counting.number_of, (house, gone, roster)
        yield from calls_with_a_roster(house, gone)
        yield from calls_of_wishes_and_breaks(house, gone)
    if roster is not None and is_small(house):
        yield from calls_of_games(house, gone, roster)


def calls_with_a_roster(house, gone):
    """Calls for stages in which some roster fits."""
    for function in (pairs.possible_pairs, pairs.sure_pairs):
        yield function, (house, gone)
    for post, person in pairs_by_words(house, gone):
        for function in (pairs.find_with, pairs.find_obstacle, pairs.find_without, pairs.find_need):
            yield function, (house, gone, post, person)
    for function in (tight.tight_sets, tight.greatest_tight, tight.needed_people):
        yield function, (house, gone)
    for post in range(len(house[1])):
        yield tight.least_tight, (house, gone, post)
    there = tuple(there_by_words(house, gone))
    for some in ((), there[:1], there[::2], there):
        for function in (away.most_away, away.find_most_away, away.find_limit):
            yield function, (house, gone, some)
        for posts in ascending_tuples(range(len(house[1])))[:5]:
            yield away.limit_of, (house, gone, some, posts)


def calls_of_wishes_and_breaks(house, gone):
    wished = wishes_of(house)
    functions = (wishes.levels_of, wishes.heaviest_weight, wishes.find_heaviest, wishes.find_ceiling)
    for function in functions:
        yield function, (house, gone, wished)
    yield wishes.height_of, (house, gone, wished, wishes.find_ceiling(house, gone, wished))
    yield breaks.smallest_breaks, (house, gone)
    yield breaks.least_break, (house, gone)
    for person in there_by_words(house, gone)[:3]:
        yield breaks.breaks_with, (house, gone, person)


def calls_between_rosters(house, gone):
    one = rosters.find_roster(house, ())
    for function in (nearest.least_moves, nearest.find_nearest, nearest.nearest_rosters):
        yield function, (house, gone, one)
    yield nearest.move_costs, (house, one)
    for post, person in pairs_by_words(house, ())[-3:]:
        other = pairs.find_with(house, (), post, person)
        if other is not None:
            for function in (nearest.moves_apart, ways.parts_between, ways.step_by_step, ways.mixed_rosters):
                yield function, (one, other)
            yield ways.with_parts, (one, other, ways.parts_between(one, other)[::-1])


def calls_of_skills(house):
    costs = skill_costs_of(house)
    missing = tuple(missing_by_words(house))
    yield skills.missing_pairs, (house,)
    for choice in (missing, missing[::2], ()):
        yield skills.learned, (house, choice)
        yield skills.choice_cost, (costs, choice)
    for f, d in ((0, 3), (0, 9), (1, 6), (2, 9), (3, 8)):
        yield skills.find_skills, (house, f, costs, d)
        yield skills.find_skill_book, (house, f, costs, d)
    for f in (0, 1, 2, 3):
        yield skills.least_skill_cost, (house, f, costs)
        yield fewskills.smallest_skills, (house, f, missing[-4:])
        yield fewskills.needed_skills, (house, f, missing[-4:])


def calls_of_games(house, gone, roster):
    for person in there_by_words(house, gone):
        for r in (0, 1, 5):
            yield games.answers_to, (house, gone, roster, person, r)
    for f, r in ((0, 1), (1, 1), (2, 1), (2, 2), (3, 2), (3, 5)):
        yield games.find_strategy, (house, gone, roster, f, r)
        yield games.find_book, (house, gone, roster, f, r)
        yield fewmoves.least_r, (house, gone, roster, f)


LISTS = (
    houses.takers, pairs.possible_pairs, pairs.sure_pairs, tight.tight_sets, tight.needed_people, wishes.levels_of,
    breaks.smallest_breaks, breaks.breaks_with, games.answers_to, fewmoves.ready_rosters, nearest.nearest_rosters,
    ways.parts_between, ways.mixed_rosters, skills.missing_pairs, fewskills.smallest_skills, fewskills.needed_skills)
TUPLES = (
    tight.greatest_tight, away.find_most_away, away.find_limit, wishes.find_heaviest, wishes.find_ceiling,
    nearest.move_costs, ways.with_parts, skills.learned, comparing.tidied)
INTEGERS = (
    cheapest.cost_of, away.most_away, away.limit_of, wishes.heaviest_weight, wishes.height_of, nearest.moves_apart,
    skills.choice_cost, counting.count_rosters, counting.number_of, counting.count_with)
INTEGERS_OR_NONE = (
    cheapest.least_roster_cost, spares.least_spare, breaks.least_break, fewmoves.least_r, fewmoves.least_ready,
    nearest.least_moves, skills.least_skill_cost)
HOLDING_DICTS = (games.find_strategy, games.find_book, skills.find_skill_book)


def kinds_told_by(function):
    """The kinds of what a function may return."""
    if function in LISTS:
        return (list,)
    if function in INTEGERS or function in INTEGERS_OR_NONE:
        return (int,) if function in INTEGERS else (int, type(None))
    if function == games.find_strategy:
        return (dict, type(None))
    if function == ways.step_by_step:
        return (list, type(None))
    return (tuple,) if function in TUPLES else (tuple, type(None))


def checks(house, gone, value):
    """Calls of all functions that take any value."""
    yield houses.is_house, (value,)
    yield houses.is_roster, (house, gone, value)
    yield rosters.is_short, (house, gone, value)
    yield cheapest.is_cost_bound, (house, gone, costs_of(house), 0, value)
    for f in (0, 1):
        yield spares.is_plan, (house, gone, f, value)
        yield spares.is_narrow, (house, gone, f, value)
    for post, person in pairs_by_words(house, gone)[:2]:
        yield pairs.is_obstacle, (house, gone, post, person, value)
        yield pairs.is_need, (house, gone, post, person, value)
    yield wishes.is_ceiling, (house, gone, wishes_of(house), 99, value)
    for f, r in ((0, 0), (1, 2), (2, 1)):
        yield games.is_strategy, (house, gone, rosters.find_roster(house, gone), f, r, value)
        yield games.is_book, (house, gone, rosters.find_roster(house, gone), f, r, value)
    for f, d in ((0, 3), (2, 9)):
        yield skills.is_skill_book, (house, f, skill_costs_of(house), d, value)
    yield keeperlogs.is_keeper_log, (house, 0, value)
    for person in there_by_words(house, gone)[:2]:
        yield tight.is_reason, (house, gone, person, value)
        yield away.is_limit, (house, gone, (person,), 1, value)


def kinds(value):
    """The value with the kind of each part of it, in which True is not 1."""
    if isinstance(value, dict):
        return (dict, [(kinds(key), kinds(value[key])) for key in value])
    if isinstance(value, (tuple, list)):
        return (type(value), [kinds(item) for item in value])
    return (type(value), value)


def spoil(value):
    """Change all lists and dicts within a value."""
    for part in lists_and_dicts(value):
        if isinstance(part, list):
            part.append("changed")
            part.reverse()
        else:
            part.clear()
            part["changed"] = None


def leaves(value):
    """All that is neither a tuple, a list nor a dict within a value."""
    if isinstance(value, dict):
        return [leaf for key in value for leaf in leaves(key) + leaves(value[key])]
    if isinstance(value, (tuple, list)):
        return [leaf for item in value for leaf in leaves(item)]
    return [value]


class Conventions(unittest.TestCase):
    def test_arguments_are_unchanged(self):
        for house, gone in all_cases():
            for function, arguments in calls(house, gone):
                before = kinds(arguments)
                function(*arguments)
                self.assertEqual(kinds(arguments), before, function)

    def test_any_value_is_unchanged(self):
        for value in odd_values():
            for house, gone in HOUSES:
                before = kinds(value)
                for function, arguments in checks(house, gone, value):
                    self.assertIs(type(function(*arguments)), bool)
                self.assertEqual(kinds(value), before)

    def test_any_value_gets_equal_answers(self):
        for value in odd_values():
            for house, gone in HOUSES:
                for function, arguments in checks(house, gone, value):
                    self.assertIs(function(*arguments), function(*deepcopy(arguments)))

    def test_equal_arguments_get_equal_results(self):
        for house, gone in all_cases():
            for function, arguments in calls(house, gone):
                self.assertEqual(kinds(function(*arguments)), kinds(function(*deepcopy(arguments))), function)

    def test_a_changed_result_does_not_change_the_next_one(self):
        changed = {}
        for house, gone in all_cases():
            for function, arguments in calls(house, gone):
                first = function(*arguments)
                if lists_and_dicts(first):
                    before = deepcopy(first)
                    spoil(first)
                    self.assertEqual(kinds(function(*arguments)), kinds(before), function)
                    changed[function] = changed.get(function, 0) + 1
        for function in (*LISTS, *HOLDING_DICTS, ways.step_by_step):
            self.assertGreater(changed[function], 20, function)

    def test_no_two_lists_or_dicts_are_one(self):
        for house, gone in all_cases():
            for function, arguments in calls(house, gone):
                told = lists_and_dicts(function(*arguments)) + lists_and_dicts(function(*arguments))
                self.assertEqual(len({id(part) for part in told}), len(told), function)

    def test_kinds_of_results(self):
        for house, gone in all_cases():
            for function, arguments in calls(house, gone):
                found = function(*arguments)
                self.assertIn(type(found), kinds_told_by(function), function)
                words = {str} if function == ways.parts_between else set()
                self.assertLessEqual({type(leaf) for leaf in leaves(found)}, {int, type(None)} | words, function)
                if found is not None and function != games.find_strategy:
                    self.assertNotIn(None, leaves(found), function)
                for item in found if isinstance(found, list) else []:
                    self.assertIn(type(item), (int, tuple), function)
