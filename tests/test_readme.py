"""The examples of README.md, and the names that it lists."""

import doctest
import importlib
import re
import unittest
from pathlib import Path

README = Path(__file__).parent.parent / "README.md"


class Readme(unittest.TestCase):
    def test_examples(self):
        found = doctest.testfile(str(README), module_relative=False)
        self.assertEqual(found.failed, 0)
        self.assertGreater(found.attempted, 10)

    def test_names(self):
        rows = re.findall(r"^\| `(sparehands\.\w+)` \| (.*) \|$", README.read_text(encoding="utf-8"), re.MULTILINE)
        self.assertGreater(len(rows), 3)
        for module, text in rows:
            place = importlib.import_module(module)
            for name in re.findall(r"`(\w+)`", text):
                if name != "ValueError":
                    self.assertTrue(hasattr(place, name) or hasattr(getattr(place, "Keeper", None), name), f"{module}.{name}")
