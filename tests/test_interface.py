"""The section "The interface": names, arguments by position, and the files in which they are defined."""

import ast
import importlib
import inspect
import unittest
from pathlib import Path

import sparehands

FUNCTIONS = {
    "houses": {
        "is_house": ["value"],
        "is_roster": ["house", "gone", "value"],
        "takers": ["house", "gone", "posts"],
    },
    "rosters": {
        "find_roster": ["house", "gone"],
        "find_short": ["house", "gone"],
        "is_short": ["house", "gone", "value"],
    },
    "pairs": {
        "possible_pairs": ["house", "gone"],
        "sure_pairs": ["house", "gone"],
        "find_with": ["house", "gone", "post", "person"],
        "find_obstacle": ["house", "gone", "post", "person"],
        "find_without": ["house", "gone", "post", "person"],
        "find_need": ["house", "gone", "post", "person"],
        "is_obstacle": ["house", "gone", "post", "person", "value"],
        "is_need": ["house", "gone", "post", "person", "value"],
    },
    "tight": {
        "tight_sets": ["house", "gone"],
        "greatest_tight": ["house", "gone"],
        "least_tight": ["house", "gone", "post"],
        "needed_people": ["house", "gone"],
        "is_reason": ["house", "gone", "person", "value"],
    },
    "cheapest": {
        "cost_of": ["house", "costs", "roster"],
        "least_roster_cost": ["house", "gone", "costs"],
        "find_cheapest": ["house", "gone", "costs"],
        "find_prices": ["house", "gone", "costs"],
        "is_cost_bound": ["house", "gone", "costs", "number", "value"],
    },
    "away": {
        "is_away": ["house", "gone", "some"],
        "most_away": ["house", "gone", "some"],
        "find_most_away": ["house", "gone", "some"],
        "find_limit": ["house", "gone", "some"],
        "limit_of": ["house", "gone", "some", "posts"],
        "is_limit": ["house", "gone", "some", "number", "value"],
    },
    "spares": {
        "least_spare": ["house", "gone"],
        "find_plan": ["house", "gone", "f"],
        "find_narrow": ["house", "gone", "f"],
        "is_plan": ["house", "gone", "f", "value"],
        "is_narrow": ["house", "gone", "f", "value"],
    },
    "wishes": {
        "levels_of": ["house", "gone", "wishes"],
        "heaviest_weight": ["house", "gone", "wishes"],
        "find_heaviest": ["house", "gone", "wishes"],
        "find_ceiling": ["house", "gone", "wishes"],
        "height_of": ["house", "gone", "wishes", "ceiling"],
        "is_ceiling": ["house", "gone", "wishes", "number", "value"],
    },
    "breaks": {
        "is_break": ["house", "gone", "people"],
        "smallest_breaks": ["house", "gone"],
        "least_break": ["house", "gone"],
        "breaks_with": ["house", "gone", "person"],
    },
    "nearest": {
        "moves_apart": ["one", "other"],
        "move_costs": ["house", "roster"],
        "least_moves": ["house", "gone", "roster"],
        "find_nearest": ["house", "gone", "roster"],
        "nearest_rosters": ["house", "gone", "roster"],
    },
    "ways": {
        "parts_between": ["one", "other"],
        "with_parts": ["one", "other", "chosen"],
        "step_by_step": ["one", "other"],
        "mixed_rosters": ["one", "other"],
    },
    "games": {
        "answers_to": ["house", "gone", "roster", "person", "r"],
        "can_answer": ["house", "gone", "roster", "f", "r"],
        "find_strategy": ["house", "gone", "roster", "f", "r"],
        "find_book": ["house", "gone", "roster", "f", "r"],
        "is_strategy": ["house", "gone", "roster", "f", "r", "value"],
        "is_book": ["house", "gone", "roster", "f", "r", "value"],
    },
    "fewmoves": {
        "least_r": ["house", "gone", "roster", "f"],
        "ready_rosters": ["house", "f", "r"],
        "least_ready": ["house", "f"],
    },
    "skills": {
        "missing_pairs": ["house"],
        "learned": ["house", "choice"],
        "choice_cost": ["costs", "choice"],
        "find_skills": ["house", "f", "costs", "d"],
        "find_skill_book": ["house", "f", "costs", "d"],
        "least_skill_cost": ["house", "f", "costs"],
        "is_skill_book": ["house", "f", "costs", "d", "value"],
    },
    "fewskills": {
        "smallest_skills": ["house", "f", "pairs"],
        "is_smallest_choice": ["house", "f", "choice"],
        "needed_skills": ["house", "f", "pairs"],
    },
    "counting": {
        "count_rosters": ["house", "gone"],
        "nth_roster": ["house", "gone", "i"],
        "number_of": ["house", "gone", "roster"],
        "count_with": ["house", "gone", "post", "person"],
    },
    "comparing": {
        "tidied": ["house"],
        "find_only": ["one", "other"],
        "find_worse": ["one", "other"],
        "bears_as_much": ["one", "other"],
    },
    "keeperlogs": {
        "keeper_log": ["keeper"],
        "first_keeper_fault": ["house", "f", "value"],
        "is_keeper_log": ["house", "f", "value"],
    },
}
KEEPER = {
    "__init__": ["house", "f"],
    "drop": ["person"],
    "let": ["person"],
    "back": ["person"],
    "learn": ["post", "person"],
    "pledge": ["n", "r"],
    "house": [],
    "roster": [],
    "gone": [],
    "pledged": [],
    "spare": [],
    "strategy": [],
    "undo": [],
    "__len__": [],
    "__eq__": ["other"],
}
ERRORS = {
    "InvalidPerson": ["person"],
    "InvalidSkill": ["post", "person"],
    "NoRoster": ["posts"],
    "TooNarrow": ["posts"],
    "NoPledge": ["book"],
    "Pledged": ["book"],
}


def defined_in(module):
    """The names of the functions and classes that a file itself defines."""
    text = Path(sparehands.__file__).with_name(module + ".py").read_text(encoding="utf-8")
    kinds = (ast.FunctionDef, ast.ClassDef)
    return [node.name for node in ast.parse(text).body if isinstance(node, kinds)]


def methods_defined_in(module, name):
    """The names of the methods that the body of a class itself defines."""
    text = Path(sparehands.__file__).with_name(module + ".py").read_text(encoding="utf-8")
    found, = [node for node in ast.parse(text).body if isinstance(node, ast.ClassDef) and node.name == name]
    return [node.name for node in found.body if isinstance(node, ast.FunctionDef)]


class Interface(unittest.TestCase):
    def test_functions(self):
        for module, functions in FUNCTIONS.items():
            for name, arguments in functions.items():
                function = getattr(importlib.import_module("sparehands." + module), name)
                parameters = inspect.signature(function).parameters.values()
                self.assertEqual([parameter.name for parameter in parameters], arguments, name)
                for parameter in parameters:
                    self.assertIs(parameter.default, inspect.Parameter.empty, name)
                    self.assertIs(parameter.kind, inspect.Parameter.POSITIONAL_OR_KEYWORD, name)
                self.assertIn(name, defined_in(module))

    def test_errors(self):
        module = importlib.import_module("sparehands.errors")
        for name, arguments in ERRORS.items():
            parameters = list(inspect.signature(getattr(module, name).__init__).parameters)
            self.assertEqual(parameters[1:], arguments, name)
            self.assertIn(name, defined_in("errors"))
        self.assertIn("SparehandsError", defined_in("errors"))

    def test_keeper(self):
        keeper = importlib.import_module("sparehands.keepers").Keeper
        self.assertIn("Keeper", defined_in("keepers"))
        self.assertEqual(keeper.__bases__, (object,))
        for name, arguments in KEEPER.items():
            parameters = list(inspect.signature(getattr(keeper, name)).parameters.values())
            self.assertEqual([parameter.name for parameter in parameters], ["self", *arguments], name)
            for parameter in parameters:
                self.assertIs(parameter.default, inspect.Parameter.empty, name)
                self.assertIs(parameter.kind, inspect.Parameter.POSITIONAL_OR_KEYWORD, name)
            self.assertIn(name, methods_defined_in("keepers", "Keeper"))

    def test_all_files(self):
        folder = Path(sparehands.__file__).parent
        names = {path.stem for path in folder.glob("*.py")}
        self.assertEqual(names, {"__init__", "errors", "keepers", *FUNCTIONS})
