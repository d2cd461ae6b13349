"""Promise 3: what holds for every function, and promise 2: what holds for all of them together."""

import unittest
from copy import deepcopy
from itertools import islice

from chairwalks.corridors import Corridor, GuardedCorridor
from chairwalks.counting import count_plans, each_plan
from chairwalks.errors import (BadCount, BadEdit, BadLeast, BadNumbers, BadPost, BadRow, BadText, BadWalkers, BadWant,
                               BadWants, BadWay, NoStation, NoVersion, NoWalker, Rejected)
from chairwalks.guards import Guard
from chairwalks.more import enough_walkers, fewest_chairs, idle_walkers, is_reachable, most_at
from chairwalks.plans import carried, is_plan, row_after, rule_plan
from chairwalks.rows import are_walkers, is_row, row_error
from chairwalks.shells import Shell
from chairwalks.texts import corridor_text, parse_corridor
from chairwalks.values import Chairs, Walker
from chairwalks.wants import are_wants, bound_of, certificate_holds, find_certificate, needs_of
from tests.support import (DEEP_LIST, HUGE, ODD_VALUES, P, Q, ROW, all_choices, all_rows, large_cases,
                           plain_certificate, possible_plans, simulate, small_cases, twins, ways, with_lists)


def accepts(error, call, *values, **named):
    """Whether a call returns; otherwise it must raise this error."""
    try:
        call(*values, **named)
    except error:
        return False
    return True


def corridor():
    """A new corridor with one edit."""
    made = Corridor((2, 1, 1), P, (0, 0, 1))
    made.come(0, 1)
    return made


# Pairs of a function that accepts any value and a value that it accepts as right.
RIGHT = [
    (is_row, (1, 0)),
    (is_row, (0, 1, 50, 0)),
    (lambda value: row_error(value) is None, (1, 0, 1)),
    (lambda value: are_walkers(3, value), ((0, 1), (1, 2), (0, 2))),
    (lambda value: are_walkers(2, value), ((0, 1),)),
    (lambda value: are_wants(3, value), (0, 1, 0)),
    (lambda value: are_wants(2, value), (500, 1)),
    (lambda value: is_plan(ROW, P, value), ((0,), (1,), (0, 1))),
    (lambda value: is_plan(ROW, P, value), ((), (), (0,))),
    (lambda value: certificate_holds(ROW, P, (0, 0, 2), value), ("plan", ((0,), (1,), (0, 1)))),
    (lambda value: certificate_holds(ROW, Q, (0, 0, 2), value), ("bar", 2, (0, 1))),
    (lambda value: certificate_holds(ROW, Q, (9, 9, 9), value), ("bar", 1, (1,))),
    (lambda value: certificate_holds(ROW, Q, (9, 9, 9), value), ("bar", 0, ())),
    (lambda value: certificate_holds(ROW, Q, (9, 9, 9), value), ("bar", 1, ())),
    (lambda value: accepts(BadNumbers, Chairs, value), (1, 0, 1)),
    (lambda value: accepts(BadNumbers, Chairs, value), (0, 10 ** 6)),
    (lambda value: accepts(NoStation, lambda: Chairs((7, 7))[value]), 0),
    (lambda value: accepts(NoStation, lambda: Chairs((7, 7))[value]), 1),
    (lambda value: accepts(BadWay, Walker, value, 2), 1),
    (lambda value: accepts(BadWay, Walker, value, 2), 0),
    (lambda value: accepts(BadWay, Walker, 0, value), 1),
    (lambda value: accepts(BadText, parse_corridor, value), "1,0 0-1 for 0,1"),
    (lambda value: is_reachable((1, 1, 0), P, value), (0, 1, 1)),
    (lambda value: is_reachable((1, 1, 0), (), value), (1, 1, 0)),
    (lambda value: accepts(BadRow, Corridor, value, ((0, 1),), (0, 0)), (1, 0)),
    (lambda value: accepts(BadWalkers, Corridor, (0, 0, 0), value, (0, 0, 0)), ((0, 1), (1, 2))),
    (lambda value: accepts(BadWants, Corridor, (0, 0, 0), (), value), (1, 0, 500)),
    (lambda value: accepts(NoStation, corridor().put, value, 1), 1),
    (lambda value: accepts(NoStation, corridor().take, value, 1), 0),
    (lambda value: accepts(NoStation, corridor().want, value, 1), 0),
    (lambda value: accepts((NoStation, BadWay), corridor().come, value, 2), 1),
    (lambda value: accepts((NoStation, BadWay), corridor().come, 0, value), 1),
    (lambda value: accepts(NoStation, corridor().most, value), 0),
    (lambda value: accepts(BadCount, corridor().put, 0, value), 1),
    (lambda value: accepts(BadCount, corridor().take, 0, value), 1),
    (lambda value: accepts(BadWant, corridor().want, 0, value), 1),
    (lambda value: accepts(BadWant, corridor().want, 0, value), 0),
    (lambda value: accepts(NoWalker, corridor().stay, value), 1),
    (lambda value: accepts(NoWalker, corridor().stay, value), 0),
    (lambda value: accepts((BadEdit, Rejected), corridor().attempt, [value]), ("put", 1, 1)),
    (lambda value: accepts((BadEdit, Rejected), corridor().attempt, (value,)), ("come", 0, 1)),
    (lambda value: accepts((BadEdit, Rejected), corridor().attempt, [value]), ("stay", 1)),
    (lambda value: accepts(BadPost, Guard, value, 1), 1),
    (lambda value: accepts(BadPost, GuardedCorridor, (2, 1, 0), P, (0, 0, 1), value, 0), 0),
    (lambda value: accepts(BadLeast, Guard, 1, value), 1),
    (lambda value: accepts(BadLeast, Guard(1, 1).short, value), 1),
    (lambda value: accepts(BadLeast, GuardedCorridor, (2, 1, 0), P, (0, 0, 1), 1, value), 1),
    (lambda value: accepts(BadText, Corridor.read, value), "1,0 0-1 for 0,1"),
    (lambda value: Shell(corridor()).execute(value) != "unknown command", "put 0 1"),
]

# The same for versions, of which None is a right one, too.
RIGHT_VERSIONS = [
    (lambda value: accepts(NoVersion, corridor().state, version=value), 1),
    (lambda value: accepts(NoVersion, corridor().certificate, version=value), 0),
    (lambda value: accepts(NoVersion, corridor().most, 0, version=value), 1),
]


def replaced(value, other):
    """All values that have the other one in the place of a part of this one, at any depth."""
    found = [other]
    if isinstance(value, tuple):
        for at, item in enumerate(value):
            found += [value[:at] + (part,) + value[at + 1:] for part in replaced(item, other)]
    return found


class Conventions(unittest.TestCase):
    def test_true_and_false_are_not_1_and_0(self):
        tried = 0
        for function, value in RIGHT + RIGHT_VERSIONS:
            for twin in twins(value):
                tried += 1
                self.assertEqual(twin, value)
                for _ in range(2):
                    self.assertIs(function(twin), False, twin)
                    self.assertIs(function(value), True, value)
                    self.assertIs(function(twin), False, twin)
        self.assertGreater(tried, 70)

    def test_where_the_row_has_a_bool(self):
        self.assertIsNone(row_error((1, 0, 1)))
        self.assertEqual(row_error((1, False, True)), (1, "chairs"))
        self.assertEqual(row_error((True, 0, 1)), (0, "chairs"))
        self.assertIsNone(row_error((1, 0, 1)))

    def test_lists_are_not_tuples(self):
        for function, value in RIGHT:
            for other in with_lists(value):
                self.assertIs(function(other), False, other)
            self.assertIs(function(value), True, value)

    def test_any_value_as_any_part(self):
        odd = [None, "", "0", [], {}, {"a": 0}, DEEP_LIST, HUGE, -HUGE, -1, 10 ** 6 + 1, 0.5, 1.0, b"\x00"]
        for function, value in RIGHT:
            for other in odd:
                for given in replaced(value, other):
                    self.assertIs(function(given), False, given)
        for function, _ in RIGHT_VERSIONS:
            self.assertIs(function(None), True)
            for other in odd[1:]:
                self.assertIs(function(other), False, other)

    def test_any_value(self):
        for function, _ in RIGHT + RIGHT_VERSIONS:
            for value in ODD_VALUES:
                self.assertIs(type(function(value)), bool, value)

    def test_arguments_do_not_change(self):
        for function, value in RIGHT:
            for given in with_lists(value) + [[value], {"a": [value]}, [DEEP_LIST]]:
                before = deepcopy(given)
                function(given)
                self.assertEqual(repr(given), repr(before))

    def test_equal_calls_return_equal_results(self):
        for row, walkers, wants in large_cases(40):
            moments = (len(walkers),) * (len(row) - 1)
            calls = [
                lambda: rule_plan(row, walkers), lambda: carried(row, walkers), lambda: needs_of(row, wants),
                lambda: bound_of(row, walkers, moments), lambda: find_certificate(row, walkers, wants),
                lambda: row_after(row, walkers, rule_plan(row, walkers)), lambda: count_plans(row, walkers[:1]),
                lambda: list(islice(each_plan(row, walkers), 20)), lambda: corridor_text(row, walkers, wants),
                lambda: parse_corridor(corridor_text(row, walkers, wants)),
                lambda: (Chairs(row) + Chairs(wants)).numbers,
                lambda: enough_walkers(row, walkers, wants), lambda: most_at(row, walkers, 1),
                lambda: fewest_chairs(row, walkers, wants, 0), lambda: idle_walkers(row, walkers[:5], wants),
                lambda: is_reachable(row, walkers, row), lambda: Corridor(row, walkers, wants).certificate(),
                lambda: list(Corridor(row, walkers, wants).walk()), lambda: str(Corridor(row, walkers, wants)),
                lambda: Shell(Corridor(row, walkers, wants)).execute("most 1"),
            ]
            first = [repr(call()) for call in calls]
            find_certificate(ROW, Q, (0, 0, 2))
            self.assertEqual([repr(call()) for call in calls], first)

    def test_results_are_tuples_of_numbers(self):
        for row, walkers, wants in large_cases(40):
            found = find_certificate(row, walkers, wants)
            for result in (rule_plan(row, walkers), carried(row, walkers), needs_of(row, wants), found[1:],
                           row_after(row, walkers, rule_plan(row, walkers)), (bound_of(row, walkers, ()),),
                           (count_plans(row, walkers[:1]),), tuple(islice(each_plan(row, walkers), 20)),
                           (Chairs(row) + Chairs(wants)).numbers,
                           parse_corridor(corridor_text(row, walkers, wants)),
                           idle_walkers(row, walkers[:5], wants), (most_at(row, walkers, 1),),
                           (enough_walkers(row, walkers, (0,) * len(row)),),
                           (fewest_chairs(row, walkers, wants[:1] + (0,) * (len(row) - 1), 0),),
                           Corridor(row, walkers, wants).state(), Corridor(row, walkers, wants).certificate()[1:],
                           tuple(Corridor(row, walkers, wants).walk())):
                self.check_numbers(result)

    def check_numbers(self, result):
        self.assertIs(type(result), tuple)
        for item in result:
            if isinstance(item, tuple):
                self.check_numbers(item)
            else:
                self.assertIs(type(item), int)


class Guarantees(unittest.TestCase):
    """Promise 2. Its (a) stands in test_plans, its (b) in test_wants, and its (f) in test_queries."""

    def met(self, row, walkers, wants):
        return find_certificate(row, walkers, wants)[0] == "plan"

    def check_more_or_less(self, row, walkers, wants):
        for at in range(len(row)):
            more = row[:at] + (row[at] + 1,) + row[at + 1:]
            self.assertTrue(self.met(more, walkers, wants), (row, walkers, wants, at))
            if wants[at] > 0:
                less = wants[:at] + (wants[at] - 1,) + wants[at + 1:]
                self.assertTrue(self.met(row, walkers, less), (row, walkers, wants, at))
        for at in range(len(walkers) + 1):
            for way in ways(len(row)):
                further = walkers[:at] + (way,) + walkers[at:]
                self.assertTrue(self.met(row, further, wants), (row, walkers, wants, at, way))

    def test_c_more_walkers_or_chairs_and_smaller_wants(self):
        tried = 0
        for row, walkers in small_cases()[::7]:
            for end in sorted({simulate(row, plan) for plan in possible_plans(row, walkers)}):
                self.assertTrue(self.met(row, walkers, end))
                self.check_more_or_less(row, walkers, end)
                tried += 1
        self.assertGreater(tried, 100)

    def test_c_in_large_cases(self):
        for row, walkers, _ in large_cases(12):
            if len(row) < 7:
                self.check_more_or_less(row, walkers[:10], row_after(row, walkers[:10], rule_plan(row, walkers[:10])))

    def test_d_chairs_are_never_more_or_fewer(self):
        for row, walkers in small_cases():
            for plan in possible_plans(row, walkers):
                self.assertEqual(sum(row_after(row, walkers, plan)), sum(row))
        for row, walkers, _ in large_cases(100):
            end = row_after(row, walkers, rule_plan(row, walkers))
            self.assertEqual(sum(end), sum(row))
            self.assertGreaterEqual(min(end), 0)

    def test_e_what_is_accepted_is_correct(self):
        accepted = 0
        for row, walkers in small_cases()[::61]:
            for wants in all_rows(len(row), 2)[::3]:
                given = [("plan", plan) for plan in all_choices(walkers)]
                given += [("bar", station, moments) for station in range(len(row))
                          for moments in [()] + [(one,) for one in range(4)]]
                for value in given:
                    if certificate_holds(row, walkers, wants, value):
                        accepted += 1
                        self.assertTrue(plain_certificate(row, walkers, wants, value), (row, walkers, wants, value))
        self.assertGreater(accepted, 100)


if __name__ == "__main__":
    unittest.main()
