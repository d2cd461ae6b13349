"""The numbers of the document, and where the interface is defined."""

import unittest
from pathlib import Path

import chairwalks
from chairwalks import bounds, counting, plans, rows, texts, values, wants


class Bounds(unittest.TestCase):
    def test_numbers(self):
        numbers = [
            ("LIMIT", 10 ** 6), ("MAX_STATIONS", 10), ("MAX_CHAIRS", 50), ("MAX_WALKERS", 40),
            ("MAX_WANT", 500), ("SMALL_STAGES", 12), ("MAX_EDITS", 60), ("BATCH", 20),
        ]
        for name, number in numbers:
            self.assertEqual(getattr(bounds, name), number, name)
            self.assertIs(type(getattr(bounds, name)), int, name)


class Interface(unittest.TestCase):
    def check(self, module, words):
        for word in words.split():
            function = getattr(module, word)
            self.assertTrue(callable(function), word)
            self.assertEqual(function.__module__, module.__name__, word)
            self.assertEqual(function.__name__, word)

    def test_each_function_is_defined_in_its_file(self):
        self.check(rows, "is_row row_error are_walkers")
        self.check(plans, "is_plan row_after rule_plan carried")
        self.check(wants, "are_wants needs_of bound_of find_certificate certificate_holds")
        self.check(counting, "count_plans each_plan")
        self.check(values, "Chairs Walker")
        self.check(texts, "corridor_text parse_corridor")

    def test_the_package_holds_only_python_files(self):
        for path in Path(chairwalks.__file__).parent.iterdir():
            self.assertTrue(path.suffix == ".py" or path.name == "__pycache__", path)


if __name__ == "__main__":
    unittest.main()
