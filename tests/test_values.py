"""Promise 12: Chairs and Walker."""

import unittest
from copy import deepcopy
from itertools import product
from random import Random

from chairwalks import values
from chairwalks.errors import (BadChairs, BadNumbers, BadWay, ChairError, NoStation, OtherLength,
                               TooFew, TooMuch)
from chairwalks.plans import row_after, rule_plan
from chairwalks.values import Chairs, Walker
from tests.support import (DEEP_DICT, DEEP_LIST, DEEP_TUPLE, HUGE, ODD_VALUES, Case, all_rows,
                           large_cases, twins, ways, with_lists)

LIMIT = 10 ** 6
NO_NUMBERS = [None, True, False, "", "0", "1", (), (1,), [], [1], {}, {"a": 1}, 1.0, b"\x01", DEEP_TUPLE,
              DEEP_LIST, DEEP_DICT, Chairs((1, 1)), Walker(0, 1), slice(0, 1)]


class Examples(Case):
    def test_chairs(self):
        chairs = Chairs((2, 0, 0))
        self.assertEqual(repr([chairs.numbers, len(chairs)]), "[(2, 0, 0), 3]")

    def test_operators(self):
        one = Chairs((2, 0, 1))
        other = Chairs((1, 0, 0))
        answers = [one[2], (one + other).numbers, (one - other).numbers, other in one, one in other]
        self.assertEqual(repr(answers), "[1, (3, 0, 1), (1, 0, 1), True, False]")

    def test_str_and_equal(self):
        chairs = Chairs((2, 15))
        answers = [str(chairs), chairs == Chairs((2, 15)), chairs == (2, 15)]
        self.assertEqual(repr(answers), "['   2|  15', True, False]")

    def test_walker(self):
        walker = Walker(0, 2)
        answers = [walker(Chairs((2, 0, 0))).numbers, walker.load, walker(Chairs((0, 1, 0))).numbers, walker.load]
        self.assertEqual(repr(answers), "[(1, 0, 1), 2, (0, 0, 1), 3]")


class Interface(Case):
    def test_each_name_is_defined_in_the_class_itself(self):
        for kind, names in [
                (Chairs, "numbers __init__ __getitem__ __add__ __sub__ __contains__ __len__ __str__ __eq__"),
                (Walker, "load __init__ __call__")]:
            self.assertEqual(kind.__module__, values.__name__)
            for name in names.split():
                self.assertIn(name, vars(kind), name)

    def test_numbers_is_only_read(self):
        chairs = Chairs((2, 0, 0))
        with self.assertRaises(AttributeError):
            chairs.numbers = (3, 0, 0)
        with self.assertRaises(AttributeError):
            del chairs.numbers
        self.assertEqual(chairs.numbers, (2, 0, 0))

    def test_load_is_only_read(self):
        walker = Walker(0, 1)
        for load in (7, 0):
            with self.assertRaises(AttributeError):
                walker.load = load
        with self.assertRaises(AttributeError):
            del walker.load
        self.assertEqual(walker.load, 0)

    def test_items_are_only_read(self):
        chairs = Chairs((2, 0, 0))
        with self.assertRaises(TypeError):
            chairs[0] = 3
        with self.assertRaises(TypeError):
            del chairs[0]
        self.assertEqual(chairs[0], 2)


class Numbers(Case):
    def check_bad(self, value):
        self.check_raises_with(BadNumbers, value, lambda: Chairs(value))

    def test_numbers_of_stations(self):
        for stations in range(2, 11):
            for number in (0, 1, LIMIT):
                chairs = Chairs((number,) * stations)
                self.assertEqual(chairs.numbers, (number,) * stations)
                self.assertIs(type(chairs.numbers), tuple)
                self.assertEqual(len(chairs), stations)
        for stations in (0, 1, 11, 12, 1000):
            self.check_bad((0,) * stations)

    def test_numbers_of_chairs(self):
        for station in range(4):
            for number in (0, 1, 50, 51, 999999, LIMIT):
                numbers = (3,) * station + (number,) + (0,) * (3 - station)
                self.assertEqual(Chairs(numbers).numbers, numbers)
            for number in (-1, -LIMIT, LIMIT + 1, HUGE, -HUGE):
                self.check_bad((3,) * station + (number,) + (0,) * (3 - station))

    def test_wrong_kinds(self):
        for item in NO_NUMBERS:
            self.check_bad((item, 0))
            self.check_bad((0, item))
            self.check_bad((0,) * 9 + (item,))
        for value in NO_NUMBERS + ODD_VALUES + [[2, 0, 0], "20", {"a": 1, "b": 2}, range(2), 20, (1, [0])]:
            self.check_bad(value)

    def test_right_after_equal_numbers(self):
        for numbers in ((1, 0), (0, 1, 1), (1,) * 10):
            for other in twins(numbers) + with_lists(numbers):
                for _ in range(2):
                    self.assertEqual(Chairs(numbers).numbers, numbers)
                    self.check_bad(other)

    def test_a_list_that_changes_later(self):
        numbers = [1, 2]
        self.check_bad(numbers)
        self.check_bad((numbers, numbers))
        self.assertEqual(numbers, [1, 2])


class Items(Case):
    def test_each_station(self):
        for stations in range(2, 11):
            numbers = tuple(range(5, 5 + stations))
            chairs = Chairs(numbers)
            self.assertEqual([chairs[station] for station in range(stations)], list(numbers))

    def test_no_station(self):
        for stations in range(2, 11):
            chairs = Chairs((7,) * stations)
            for at in (-1, -stations, stations, stations + 1, 10, HUGE, -HUGE):
                self.check_raises(NoStation, {"value": at}, lambda: chairs[at])

    def test_what_is_no_number(self):
        chairs = Chairs((7, 8, 9))
        for value in NO_NUMBERS + [(0, 1), [0], slice(None), slice(0, 2)]:
            self.check_raises_with(NoStation, value, lambda: chairs[value])
        for value in ODD_VALUES:
            if type(value) is not int or value not in (0, 1, 2):
                self.check_raises_with(NoStation, value, lambda: chairs[value])

    def test_true_and_false_right_after_1_and_0(self):
        chairs = Chairs((7, 8))
        for _ in range(2):
            self.assertEqual([chairs[0], chairs[1]], [7, 8])
            self.check_raises(NoStation, {"value": True}, lambda: chairs[True])
            self.check_raises(NoStation, {"value": False}, lambda: chairs[False])

    def test_no_loop(self):
        chairs = Chairs((1, 2, 3))
        with self.assertRaises(TypeError):
            for _ in chairs:
                self.fail("a loop went over a Chairs")
        for call in (iter, list, tuple, sorted, sum, enumerate, lambda value: [*value],
                     lambda value: [number for number in value]):
            with self.assertRaises(TypeError):
                call(chairs)
        with self.assertRaises(TypeError):
            _, _, _ = chairs


class PlusAndMinus(Case):
    def test_small_ones(self):
        for one, other in product(all_rows(2, 4), repeat=2):
            total = Chairs(one) + Chairs(other)
            self.assertIs(type(total), Chairs)
            self.assertEqual(total.numbers, (one[0] + other[0], one[1] + other[1]))
            if one[0] >= other[0] and one[1] >= other[1]:
                rest = Chairs(one) - Chairs(other)
                self.assertIs(type(rest), Chairs)
                self.assertEqual(rest.numbers, (one[0] - other[0], one[1] - other[1]))

    def test_back_again(self):
        for row, _, wants in large_cases(60):
            one, other = Chairs(row), Chairs(wants)
            self.assertEqual((one + other).numbers, tuple(map(sum, zip(row, wants))))
            self.assertEqual((one + other) - other, one)
            self.assertEqual(one + other, other + one)
            self.assertIn(one, one + other)

    def test_other_lengths(self):
        for one, other in product(range(2, 11), repeat=2):
            # Where the lengths differ, no number counts.
            first, second = Chairs((0,) * one), Chairs((LIMIT,) * other)
            third = Chairs((LIMIT,) * one)
            if one == other:
                self.assertEqual(first + second, third)
                self.assertEqual((second - third).numbers, (0,) * one)
            else:
                self.check_raises(OtherLength, {}, lambda: third + second)
                self.check_raises(OtherLength, {}, lambda: first - second)
                self.check_raises(OtherLength, {}, lambda: first + second)
                self.check_raises(OtherLength, {}, lambda: third - second)

    def test_the_first_sum_above_the_limit(self):
        one = Chairs((LIMIT, 5, LIMIT - 1, LIMIT))
        self.assertEqual((one + Chairs((0, 9, 1, 0))).numbers, (LIMIT, 14, LIMIT, LIMIT))
        self.check_raises(TooMuch, {"total": LIMIT + 1}, lambda: one + Chairs((1, 0, 3, 4)))
        self.check_raises(TooMuch, {"total": LIMIT + 2}, lambda: one + Chairs((0, 0, 3, 4)))
        self.check_raises(TooMuch, {"total": LIMIT + 4}, lambda: one + Chairs((0, 0, 1, 4)))
        self.check_raises(TooMuch, {"total": LIMIT + 5}, lambda: one + Chairs((0, LIMIT, 1, 4)))
        self.check_raises(TooMuch, {"total": 2 * LIMIT}, lambda: one + Chairs((LIMIT, 0, 2, 1)))

    def test_the_first_station_at_which_other_has_more(self):
        one = Chairs((4, 0, 7, LIMIT))
        self.assertEqual((one - one).numbers, (0, 0, 0, 0))
        self.check_raises(TooFew, {"present": 4}, lambda: one - Chairs((5, 1, 8, 0)))
        self.check_raises(TooFew, {"present": 0}, lambda: one - Chairs((4, 1, 8, 0)))
        self.check_raises(TooFew, {"present": 7}, lambda: one - Chairs((4, 0, 8, 0)))
        self.check_raises(TooFew, {"present": 0}, lambda: Chairs((1, 0)) - Chairs((0, LIMIT)))
        self.check_raises(TooFew, {"present": 999999}, lambda: Chairs((0, 999999)) - Chairs((0, LIMIT)))

    def test_operands_stay_as_they_are(self):
        one, other, third = Chairs((2, LIMIT)), Chairs((1, 1)), Chairs((0, 0, 0))
        calls = [lambda: one + other, lambda: one - other, lambda: other - one, lambda: one + third,
                 lambda: third - one, lambda: other in one, lambda: one[1], lambda: one[2], lambda: one + one]
        for call in calls:
            try:
                call()
            except (ChairError, LookupError):
                pass
            self.assertEqual([one.numbers, other.numbers, third.numbers], [(2, LIMIT), (1, 1), (0, 0, 0)])
        grown = one
        grown -= other
        self.assertEqual([one.numbers, grown.numbers], [(2, LIMIT), (1, 999999)])
        grown += other
        self.assertEqual([one.numbers, grown.numbers], [(2, LIMIT), (2, LIMIT)])

    def test_what_is_no_chairs(self):
        chairs = Chairs((1, 1))
        for value in ((1, 1), 1, None, "1", [1, 1]):
            for call in (lambda: chairs + value, lambda: value + chairs, lambda: chairs - value,
                         lambda: value - chairs):
                with self.assertRaises(TypeError):
                    call()


class Contains(Case):
    def test_small_ones(self):
        for one, other in product(all_rows(3, 2), repeat=2):
            right = all(less <= present for less, present in zip(other, one))
            self.assertIs(Chairs(other) in Chairs(one), right, (one, other))

    def test_other_lengths(self):
        for one, other in product(range(2, 11), repeat=2):
            self.assertIs(Chairs((0,) * other) in Chairs((9,) * one), one == other)

    def test_any_value(self):
        chairs = Chairs((LIMIT, LIMIT))
        for value in ODD_VALUES + [0, 5, LIMIT, (0, 0), (LIMIT, LIMIT), [0, 0], Walker(0, 1), Chairs, 1.0]:
            self.assertIs(value in chairs, False, value)
        self.assertIs(chairs in chairs, True)
        self.assertIs(chairs not in Chairs((LIMIT, LIMIT - 1)), True)


class Equal(Case):
    def test_against_tuples(self):
        numbers = all_rows(2, 2) + all_rows(3, 2)
        for one, other in product(numbers, repeat=2):
            self.assertIs(Chairs(one) == Chairs(other), one == other)
            self.assertIs(Chairs(one) != Chairs(other), one != other)

    def test_other_values(self):
        chairs = Chairs((1, 0))
        for value in ODD_VALUES + NO_NUMBERS + [(1, 0), [1, 0], chairs.numbers, str(chairs), Walker(0, 1), Chairs]:
            self.assertIs(chairs == value, False, value)
            self.assertIs(value == chairs, False, value)
            self.assertIs(chairs != value, True, value)
            self.assertIs(value != chairs, True, value)

    def test_itself(self):
        chairs = Chairs((1, 0))
        self.assertIs(chairs == chairs, True)
        self.assertIs(chairs != chairs, False)
        self.assertIs([chairs] == [Chairs((1, 0))], True)


class Text(Case):
    def test_numbers_of_one_to_seven_digits(self):
        self.assertEqual(str(Chairs((1, 12, 123, 1234, 12345, 123456, 1000000))),
                         "   1|  12| 123|1234|12345|123456|1000000")
        self.assertEqual(str(Chairs((9999, 10000))), "9999|10000")
        self.assertEqual(str(Chairs((0,) * 10)), "|".join(["   0"] * 10))
        self.assertEqual(f"{Chairs((999, 1000))}", " 999|1000")

    def test_as_the_document_says(self):
        random = Random(5)
        for _ in range(200):
            numbers = tuple(random.randint(0, 10 ** random.randint(0, 6)) for _ in range(random.randint(2, 10)))
            self.assertEqual(str(Chairs(numbers)), "|".join(str(number).rjust(4) for number in numbers))


class Ways(Case):
    def test_each_pair_of_numbers(self):
        for first, last in product(range(-2, 13), repeat=2):
            if (first, last) in ways(10):
                self.assertEqual(Walker(first, last).load, 0)
            else:
                self.check_raises(BadWay, {}, lambda: Walker(first, last))

    def test_any_values(self):
        for value in NO_NUMBERS + ODD_VALUES:
            if type(value) is int and 0 <= value <= 9:
                continue
            for other in (0, 1, 9, None, value):
                self.check_raises(BadWay, {}, lambda: Walker(value, other))
                self.check_raises(BadWay, {}, lambda: Walker(other, value))

    def test_true_and_false_right_after_1_and_0(self):
        for _ in range(2):
            Walker(0, 1)
            for first, last in ((False, 1), (0, True), (False, True), (True, 2), (False, 9)):
                self.check_raises(BadWay, {}, lambda: Walker(first, last))


class Calls(Case):
    def test_by_the_rule(self):
        for row in all_rows(4, 2):
            for way in ways(4):
                walker, chairs = Walker(*way), Chairs(row)
                plan = rule_plan(row, (way,))
                after = walker(chairs)
                self.assertIs(type(after), Chairs)
                self.assertEqual(after.numbers, row_after(row, (way,), plan))
                self.assertEqual(walker.load, len(plan[0]))
                self.assertEqual(chairs.numbers, row)

    def test_one_after_another(self):
        for row, walkers, _ in large_cases(60):
            chairs = Chairs(row)
            carried = 0
            for way in walkers:
                walker = Walker(*way)
                chairs = walker(chairs)
                carried += walker.load
            plan = rule_plan(row, walkers)
            self.assertEqual(chairs.numbers, row_after(row, walkers, plan))
            self.assertEqual(carried, sum(len(stages) for stages in plan))

    def test_few_chairs(self):
        walker = Walker(1, 4)
        self.assertEqual(walker(Chairs((5, 0, 0, 0, 5, 5))).numbers, (5, 0, 0, 0, 5, 5))
        self.assertEqual(walker.load, 0)
        self.assertEqual(walker(Chairs((5, 0, 0, 1, 0))).numbers, (5, 0, 0, 0, 1))
        self.assertEqual(walker.load, 1)
        self.assertEqual(walker(Chairs((0, 1, 0, 0, 0))).numbers, (0, 0, 0, 0, 1))
        self.assertEqual(walker.load, 4)
        self.assertEqual(walker(Chairs((0, 1, 0, 1, 0))).numbers, (0, 0, 0, 1, 1))
        self.assertEqual(walker.load, 7)

    def test_without_the_station_last(self):
        for last in range(1, 10):
            walker = Walker(0, last)
            for stations in range(2, 11):
                chairs = Chairs((1,) * stations)
                if stations > last:
                    self.assertEqual(len(walker(chairs)), stations)
                else:
                    self.check_raises_with(BadChairs, chairs, lambda: walker(chairs))

    def test_no_chairs(self):
        walker = Walker(0, 1)
        for value in ODD_VALUES + [(1, 0), [1, 0], Walker(0, 1), walker, Chairs, 1.0]:
            self.check_raises_with(BadChairs, value, lambda: walker(value))
        self.assertEqual(walker.load, 0)

    def test_arguments_do_not_change(self):
        walker = Walker(0, 1)
        for value in ([1, 0], {"a": [1]}, DEEP_LIST):
            before = deepcopy(value)
            self.check_raises_with(BadChairs, value, lambda: walker(value))
            self.assertEqual(value, before)

    def test_at_the_limit(self):
        full = Chairs((1, LIMIT, 0))
        self.check_raises(TooMuch, {"total": LIMIT + 1}, lambda: Walker(0, 1)(full))
        # What is too much only for a moment does not count.
        self.assertEqual(Walker(0, 2)(full).numbers, (0, LIMIT, 1))
        self.assertEqual(Walker(1, 2)(full).numbers, (1, LIMIT - 1, 1))
        self.assertEqual(Walker(0, 1)(Chairs((LIMIT, LIMIT - 1))).numbers, (LIMIT - 1, LIMIT))
        self.assertEqual(Walker(0, 1)(Chairs((0, LIMIT))).numbers, (0, LIMIT))
        self.check_raises(TooMuch, {"total": LIMIT + 1}, lambda: Walker(0, 9)(Chairs((0,) * 8 + (1, LIMIT))))
        self.check_raises(TooMuch, {"total": LIMIT + 1}, lambda: Walker(0, 2)(Chairs((LIMIT,) * 10)))
        self.assertEqual(Walker(0, 9)(Chairs((LIMIT,) * 9 + (0,))).numbers, (LIMIT - 1,) + (LIMIT,) * 8 + (1,))


class Loads(Case):
    def test_calls_that_return_and_calls_that_raise(self):
        walker = Walker(0, 2)
        calls = [
            ((2, 0, 0), 2), ((0, 0, 0), 2), ((1, 0), 2), ((1, 1, LIMIT), 2), ((1, 1, 1), 4), (None, 4),
            ((0, 1, LIMIT), 4), ((0, 1, LIMIT - 1), 5), ((0, 0, LIMIT), 5), ((1, 0, 0, 0), 7),
        ]
        for numbers, load in calls:
            value = numbers
            if numbers is not None:
                value = Chairs(numbers)
            try:
                walker(value)
            except ChairError:
                pass
            self.assertEqual(walker.load, load, numbers)
            self.assertIs(type(walker.load), int)

    def test_each_walker_by_itself(self):
        one, other, third = Walker(0, 2), Walker(0, 2), Walker(0, 1)
        chairs = Chairs((5, 5, 0))
        one(chairs)
        one(chairs)
        third(chairs)
        self.assertEqual([one.load, other.load, third.load], [4, 0, 1])
        other(chairs)
        self.assertEqual([one.load, other.load, third.load], [4, 2, 1])
        self.assertEqual(Walker(0, 2).load, 0)

    def test_equal_calls_return_equal_results(self):
        walker = Walker(0, 2)
        chairs = Chairs((5, 5, 0))
        self.assertEqual(walker(chairs), walker(chairs))
        self.assertEqual(walker(chairs), Walker(0, 2)(Chairs((5, 5, 0))))


if __name__ == "__main__":
    unittest.main()
