"""Promises 4 and 5: rows and walkers."""

import unittest

from chairwalks.rows import are_walkers, is_row, row_error
from tests.support import HUGE, ODD_VALUES, P, Q, ways


class Rows(unittest.TestCase):
    def check(self, value, error):
        self.assertEqual(row_error(value), error, value)
        self.assertIs(is_row(value), error is None, value)

    def test_example(self):
        answers = [is_row((2, 0, 0)), row_error((2,)), row_error((2, 51, True))]
        self.assertEqual(repr(answers), "[True, (None, 'row'), (1, 'chairs')]")

    def test_numbers_of_stations(self):
        self.check((), (None, "row"))
        self.check((0,), (None, "row"))
        for stations in range(2, 11):
            self.check((0,) * stations, None)
            self.check((50,) * stations, None)
        self.check((0,) * 11, (None, "row"))
        self.check((0,) * 1000, (None, "row"))

    def test_numbers_of_chairs(self):
        for number in (0, 1, 2, 49, 50):
            for station in range(4):
                row = (0,) * station + (number,) + (50,) * (3 - station)
                self.check(row, None)
        for number in (-1, 51, -50, 10 ** 6, HUGE, -HUGE):
            for station in range(4):
                row = (0,) * station + (number,) + (50,) * (3 - station)
                self.check(row, (station, "chairs"))

    def test_first_wrong_item_of_several(self):
        self.check((1, -1, 51), (1, "chairs"))
        self.check((51, -1), (0, "chairs"))
        self.check((0, None, 51, "0"), (1, "chairs"))
        self.check((0, 0, 51, -1), (2, "chairs"))
        self.check((0, 0, 0, -1), (3, "chairs"))
        self.check((0,) * 9 + (True,), (9, "chairs"))
        self.check((51,), (None, "row"))
        self.check((51,) * 11, (None, "row"))

    def test_wrong_kinds_of_items(self):
        for item in (None, True, False, "1", "", (), (1,), [], [1], {}, {"a": 1}, 1.0):
            self.check((0, item), (1, "chairs"))
            self.check((item, 0), (0, "chairs"))

    def test_wrong_kinds_of_values(self):
        for value in ([2, 0, 0], "20", {"a": 1, "b": 2}, None, True, 20, {}, [], "", b"\x01\x02"):
            self.check(value, (None, "row"))
        for value in ODD_VALUES:
            self.assertIs(is_row(value), False, value)


class Walkers(unittest.TestCase):
    def test_example(self):
        answers = [are_walkers(3, P), are_walkers(2, P), are_walkers(3, ((1, 1),)), are_walkers(3, ())]
        self.assertEqual(repr(answers), "[True, False, False, True]")

    def test_numbers_of_walkers(self):
        for many in (0, 1, 2, 39, 40):
            self.assertIs(are_walkers(2, ((0, 1),) * many), True, many)
        for many in (41, 42, 100):
            self.assertIs(are_walkers(2, ((0, 1),) * many), False, many)

    def test_first_and_last(self):
        for stations in range(2, 11):
            for first in range(-2, stations + 3):
                for last in range(-2, stations + 3):
                    right = (first, last) in ways(stations)
                    self.assertIs(are_walkers(stations, ((first, last),)), right, (stations, first, last))
                    walkers = ((0, 1), (first, last), (0, stations - 1))
                    self.assertIs(are_walkers(stations, walkers), right, (stations, first, last))

    def test_other_numbers_of_stations(self):
        for stations in range(2, 11):
            self.assertIs(are_walkers(stations, ()), True)
            self.assertIs(are_walkers(stations, ((0, 9),)), stations == 10)
            self.assertIs(are_walkers(stations, ((0, 4), (1, 2))), stations > 4)
            self.assertIs(are_walkers(stations, Q), stations > 2)

    def test_each_walker_counts(self):
        for at in range(4):
            walkers = P + ((0, 2),)
            for wrong in ((1, 1), (2, 1), (-1, 2), (0, 3), (0,), (0, 1, 2), None, [0, 1], "01"):
                self.assertIs(are_walkers(3, walkers[:at] + (wrong,) + walkers[at + 1:]), False, (at, wrong))

    def test_pairs_that_are_too_short_or_too_long(self):
        for pair in ((), (0,), (1,), (0, 1, 2), (0, 1, 1), (0, 1, None), (0, 2, ())):
            self.assertIs(are_walkers(3, (pair,)), False, pair)

    def test_wrong_kinds(self):
        for item in (None, True, False, "0", "1", (), [], {}, 1.0, HUGE, -HUGE):
            self.assertIs(are_walkers(3, ((0, item),)), False, item)
            self.assertIs(are_walkers(3, ((item, 2),)), False, item)
            self.assertIs(are_walkers(3, (item,)), False, item)
        for value in ([], [(0, 1)], ([0, 1],), {}, {"a": (0, 1)}, "", "01", None, False, 0, (0, 1),
                      ({"a": 0, "b": 1},)):
            self.assertIs(are_walkers(3, value), False, value)
        for value in ODD_VALUES:
            self.assertIs(are_walkers(3, value), value == () and isinstance(value, tuple), value)


if __name__ == "__main__":
    unittest.main()
