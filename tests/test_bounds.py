"""The numbers of the document, and where the interface is defined."""

import unittest
from inspect import signature
from pathlib import Path

import chairwalks
from chairwalks import bounds, corridors, counting, guards, more, plans, rows, shells, texts, values, wants


class Bounds(unittest.TestCase):
    def test_numbers(self):
        numbers = [
            ("LIMIT", 10 ** 6), ("MAX_STATIONS", 10), ("MAX_CHAIRS", 50), ("MAX_WALKERS", 40),
            ("MAX_WANT", 500), ("SMALL_STAGES", 12), ("MAX_EDITS", 60), ("BATCH", 20),
        ]
        for name, number in numbers:
            self.assertEqual(getattr(bounds, name), number, name)
            self.assertIs(type(getattr(bounds, name)), int, name)


class Interface(unittest.TestCase):
    def check(self, module, words):
        for word in words.split():
            function = getattr(module, word)
            self.assertTrue(callable(function), word)
            self.assertEqual(function.__module__, module.__name__, word)
            self.assertEqual(function.__name__, word)

    def test_each_function_is_defined_in_its_file(self):
        self.check(rows, "is_row row_error are_walkers")
        self.check(plans, "is_plan row_after rule_plan carried")
        self.check(wants, "are_wants needs_of bound_of find_certificate certificate_holds")
        self.check(more, "enough_walkers most_at fewest_chairs idle_walkers is_reachable")
        self.check(counting, "count_plans each_plan")
        self.check(guards, "Guard")
        self.check(values, "Chairs Walker")
        self.check(corridors, "Corridor GuardedCorridor")
        self.check(texts, "corridor_text parse_corridor")
        self.check(shells, "Shell")

    def test_parameters(self):
        for call, names in [
                (rows.is_row, "(value)"), (rows.row_error, "(value)"), (rows.are_walkers, "(stations, value)"),
                (plans.is_plan, "(row, walkers, value)"), (plans.row_after, "(row, walkers, plan)"),
                (plans.rule_plan, "(row, walkers)"), (plans.carried, "(row, walkers)"),
                (wants.are_wants, "(stations, value)"), (wants.needs_of, "(row, wants)"),
                (wants.bound_of, "(row, walkers, moments)"), (wants.find_certificate, "(row, walkers, wants)"),
                (wants.certificate_holds, "(row, walkers, wants, value)"),
                (more.enough_walkers, "(row, walkers, wants)"), (more.most_at, "(row, walkers, station)"),
                (more.fewest_chairs, "(row, walkers, wants, station)"), (more.idle_walkers, "(row, walkers, wants)"),
                (more.is_reachable, "(row, walkers, value)"), (counting.count_plans, "(row, walkers)"),
                (counting.each_plan, "(row, walkers)"), (values.Chairs, "(numbers)"), (values.Walker, "(first, last)"),
                (corridors.Corridor, "(row, walkers, wants)"), (corridors.Corridor.put, "(self, station, count)"),
                (corridors.Corridor.take, "(self, station, count)"),
                (corridors.Corridor.want, "(self, station, number)"), (corridors.Corridor.come, "(self, first, last)"),
                (corridors.Corridor.stay, "(self, index)"), (corridors.Corridor.undo, "(self)"),
                (corridors.Corridor.attempt, "(self, edits, *, watch=None)"),
                (corridors.Corridor.state, "(self, *, version=None)"),
                (corridors.Corridor.certificate, "(self, *, version=None)"),
                (corridors.Corridor.most, "(self, station, *, version=None)"), (corridors.Corridor.walk, "(self)"),
                (corridors.Corridor.edits, "(self)"), (corridors.Corridor.read, "(text)"),
                (guards.Guard, "(post, least)"), (guards.Guard.short, "(self, number)"),
                (corridors.GuardedCorridor, "(row, walkers, wants, post, least)"),
                (texts.corridor_text, "(row, walkers, wants)"), (texts.parse_corridor, "(value)"),
                (shells.Shell, "(corridor)"), (shells.Shell.execute, "(self, line)")]:
            self.assertEqual(str(signature(call)), names, call)

    def test_the_package_holds_only_python_files(self):
        for path in Path(chairwalks.__file__).parent.iterdir():
            self.assertTrue(path.suffix == ".py" or path.name == "__pycache__", path)


if __name__ == "__main__":
    unittest.main()
