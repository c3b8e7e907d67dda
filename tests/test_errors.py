"""The errors of point [21] and of the section "The interface"."""

import unittest

from sparehands.errors import (
    InvalidPerson,
    InvalidSkill,
    NoPledge,
    NoRoster,
    Pledged,
    SparehandsError,
    TooNarrow,
)
from tests.trying import odd_values

PARAMETERS = {
    InvalidPerson: ("person",),
    InvalidSkill: ("post", "person"),
    NoRoster: ("posts",),
    TooNarrow: ("posts",),
    NoPledge: ("book",),
    Pledged: ("book",),
}


class Errors(unittest.TestCase):
    def test_bases(self):
        self.assertEqual(SparehandsError.__bases__, (ValueError,))
        for kind in PARAMETERS:
            self.assertEqual(kind.__bases__, (SparehandsError,))

    def test_each_holds_what_it_was_made_with(self):
        values = odd_values() + [(0, {}), (1, {(0, 2): (2, {})})]
        for kind, names in PARAMETERS.items():
            for value in values:
                for other in (value, None, 7):
                    told = (value, other)[:len(names)]
                    error = kind(*told)
                    for name, held in zip(names, told):
                        self.assertEqual(getattr(error, name), held)
                        self.assertIs(type(getattr(error, name)), type(held))

    def test_each_has_only_its_attributes(self):
        for kind, names in PARAMETERS.items():
            self.assertEqual(sorted(vars(kind(*names))), sorted(names))

    def test_wrong_numbers_of_arguments(self):
        for kind, names in PARAMETERS.items():
            with self.assertRaises(TypeError):
                kind()
            with self.assertRaises(TypeError):
                kind(*names, 0)

    def test_each_is_caught_as_its_bases(self):
        for kind, names in PARAMETERS.items():
            for base in (kind, SparehandsError, ValueError):
                with self.assertRaises(base):
                    raise kind(*names)

    def test_each_is_of_no_other_class(self):
        for kind, names in PARAMETERS.items():
            for other in PARAMETERS:
                self.assertEqual(isinstance(kind(*names), other), kind is other)

    def test_each_can_be_shown(self):
        for kind, names in PARAMETERS.items():
            for value in odd_values():
                error = kind(*[value for _ in names])
                self.assertIsInstance(str(error), str)
                self.assertIsInstance(repr(error), str)
