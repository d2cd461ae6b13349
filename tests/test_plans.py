"""Promises 6 and 7: plans and the rule."""

import unittest

from chairwalks.plans import carried, is_plan, row_after, rule_plan
from tests.support import (HUGE, ODD_VALUES, P, Q, ROW, all_choices, counts_of, large_cases,
                           possible_plans, simulate, small_cases)


class Plans(unittest.TestCase):
    def test_example(self):
        answers = [is_plan((2, 0, 0), P, ((0,), (1,), (0, 1))), is_plan((2, 0, 0), P, ((0,), (1,), (1,))),
                   is_plan((2, 0, 0), P, ((0,), (0,), ()))]
        self.assertEqual(repr(answers), "[True, False, False]")

    def test_against_all_choices(self):
        for row, walkers in small_cases():
            for plan in all_choices(walkers):
                self.assertIs(is_plan(row, walkers, plan), simulate(row, plan) is not None, (row, walkers, plan))

    def test_stages_out_of_order_twice_or_outside_of_the_way(self):
        row = (9, 9, 9, 9, 9)
        self.assertIs(is_plan(row, ((1, 4),), ((1, 2, 3),)), True)
        for stages in ((2, 1), (3, 1), (1, 3, 2), (1, 1), (2, 2, 3), (1, 2, 3, 3),
                       (0,), (0, 1), (4,), (3, 4), (-1,), (-1, 1), (5,), (1, HUGE), (-HUGE, 1)):
            self.assertIs(is_plan(row, ((1, 4),), (stages,)), False, stages)
            self.assertIs(is_plan(row, ((0, 4), (1, 4), (0, 4)), ((), stages, ())), False, stages)

    def test_another_number_of_walkers(self):
        self.assertIs(is_plan((9, 9), (), ()), True)
        self.assertIs(is_plan((9, 9), (), ((),)), False)
        for many in (1, 2, 39, 40):
            walkers = ((0, 1),) * many
            for stages in ((), (0,)):
                right = is_plan((50, 0), walkers, (stages,) * many)
                self.assertIs(right, True)
                self.assertIs(is_plan((50, 0), walkers, (stages,) * (many - 1)), False)
                self.assertIs(is_plan((50, 0), walkers, (stages,) * (many + 1)), False)
            self.assertIs(is_plan((50, 0), walkers, ((0,),) * many + ((),)), False)

    def test_a_chair_that_the_same_walker_has_just_brought(self):
        self.assertIs(is_plan((1, 0, 0), ((0, 2),), ((0, 1),)), True)
        self.assertIs(is_plan((0, 0, 0), ((0, 2),), ((0, 1),)), False)
        self.assertIs(is_plan((1, 0, 0), ((0, 2),), ((1,),)), False)
        self.assertIs(is_plan((1, 0, 0, 0), ((0, 3),), ((0, 1, 2),)), True)
        self.assertIs(is_plan((1, 0, 0, 0), ((0, 3),), ((0, 2),)), False)
        self.assertEqual(row_after((1, 0, 0, 0), ((0, 3),), ((0, 1, 2),)), (0, 0, 0, 1))

    def test_a_station_at_which_no_chair_is_left(self):
        walkers = ((0, 1),) * 3
        self.assertIs(is_plan((2, 5), walkers, ((0,), (0,), ())), True)
        self.assertIs(is_plan((2, 5), walkers, ((0,), (), (0,))), True)
        self.assertIs(is_plan((2, 5), walkers, ((0,), (0,), (0,))), False)
        # What comes later does not help the one who walks now.
        self.assertIs(is_plan((1, 0, 0), ((1, 2), (0, 1)), ((1,), (0,))), False)
        self.assertIs(is_plan((1, 0, 0), ((0, 1), (1, 2)), ((0,), (1,))), True)

    def test_wrong_kinds(self):
        for value in ODD_VALUES:
            right = value == ((), (), ()) and isinstance(value, tuple)
            self.assertIs(is_plan(ROW, P, value), right, value)
        for item in (None, True, False, 0, 1, "", "0", [], [0], {}, ("0",), (None,), ((),), ((0,),), ([],), (0.0,)):
            self.assertIs(is_plan((9, 9, 9), P, (item, (), ())), False, item)
            self.assertIs(is_plan((9, 9, 9), P, ((), (), item)), False, item)


class RowAfter(unittest.TestCase):
    def test_example(self):
        answers = [row_after((2, 0, 0), P, ((0,), (1,), (0, 1))), row_after((2, 0, 0), P, ((), (), (0,)))]
        self.assertEqual(repr(answers), "[(0, 0, 2), (1, 1, 0)]")

    def test_against_all_possible_plans(self):
        for row, walkers in small_cases():
            for plan in possible_plans(row, walkers):
                self.assertEqual(row_after(row, walkers, plan), simulate(row, plan))

    def test_more_than_max_chairs_in_the_end(self):
        self.assertEqual(row_after((50, 50), ((0, 1),) * 40, ((0,),) * 40), (10, 90))
        self.assertEqual(row_after((50, 50), ((0, 1),), ((0,),)), (49, 51))
        self.assertIs(is_plan((50, 50), ((0, 1),) * 40, ((0,),) * 40), True)

    def test_nobody(self):
        self.assertEqual(row_after((3, 4), (), ()), (3, 4))
        self.assertEqual(row_after((3, 4), ((0, 1),), ((),)), (3, 4))


class Rule(unittest.TestCase):
    def test_example(self):
        answers = [rule_plan((2, 0, 0), P), rule_plan((2, 0, 0), Q)]
        self.assertEqual(repr(answers), "[((0,), (1,), (0, 1)), ((), (0,), (0, 1))]")

    def test_everyone_carries_wherever_a_chair_stands(self):
        cases = small_cases() + [(row, walkers) for row, walkers, _ in large_cases(100)]
        for row, walkers in cases:
            plan = rule_plan(row, walkers)
            self.assertIs(is_plan(row, walkers, plan), True)
            chairs = list(row)
            for (first, last), stages in zip(walkers, plan):
                for stage in range(first, last):
                    self.assertEqual(stage in stages, chairs[stage] > 0, (row, walkers))
                    if chairs[stage] > 0:
                        chairs[stage] -= 1
                        chairs[stage + 1] += 1

    def test_no_plan_carries_more_by_any_moment(self):
        # This is guarantee (a) of promise 2, too.
        for row, walkers in small_cases():
            most = [counts_of(rule_plan(row, walkers), stage) for stage in range(len(row) - 1)]
            for plan in possible_plans(row, walkers):
                for stage, counts in enumerate(most):
                    for count, other in zip(counts, counts_of(plan, stage)):
                        self.assertGreaterEqual(count, other, (row, walkers, plan))

    def test_nobody_and_everybody(self):
        self.assertEqual(rule_plan((3, 4), ()), ())
        self.assertEqual(rule_plan((50, 0), ((0, 1),) * 40), ((0,),) * 40)
        self.assertEqual(rule_plan((39, 0), ((0, 1),) * 40), ((0,),) * 39 + ((),))
        self.assertEqual(rule_plan((0, 50), ((0, 1),) * 40), ((),) * 40)
        way = tuple(range(9))
        self.assertEqual(rule_plan((1,) + (0,) * 9, ((0, 9),) * 2), (way, ()))


class Carried(unittest.TestCase):
    def test_example(self):
        answers = [carried((2, 0, 0), P), carried((2, 0, 0), Q)]
        self.assertEqual(repr(answers), "[((0, 1, 1, 2), (0, 0, 1, 2)), ((0, 0, 1, 2), (0, 0, 0, 1))]")

    def check(self, row, walkers):
        counts = carried(row, walkers)
        plan = rule_plan(row, walkers)
        self.assertEqual(counts, tuple(counts_of(plan, stage) for stage in range(len(row) - 1)))
        for stage, totals in enumerate(counts):
            self.assertIs(type(totals), tuple)
            self.assertEqual(len(totals), len(walkers) + 1)
            self.assertEqual(totals[0], 0)
            for first in range(len(walkers)):
                start, end = walkers[first]
                one_more = totals[first] + (1 if start <= stage < end else 0)
                present = row[stage] + (counts[stage - 1][first + 1] if stage > 0 else 0)
                self.assertEqual(totals[first + 1], min(one_more, present), (row, walkers))

    def test_counted_and_from_stage_to_stage(self):
        for row, walkers in small_cases():
            self.check(row, walkers)
        for row, walkers, _ in large_cases(200):
            self.check(row, walkers)

    def test_counts_are_numbers(self):
        for totals in carried((1, 1, 1), Q):
            self.assertEqual([type(count) for count in totals], [int] * 4)

    def test_no_walkers(self):
        self.assertEqual(carried((3, 4), ()), ((0,),))
        self.assertEqual(carried((3,) * 10, ()), ((0,),) * 9)

    def test_forty_walkers(self):
        self.assertEqual(carried((50, 0), ((0, 1),) * 40), (tuple(range(41)),))
        self.assertEqual(carried((39, 0), ((0, 1),) * 40), (tuple(range(40)) + (39,),))
        self.assertEqual(carried((30, 0, 0), ((0, 2),) * 40), ((tuple(range(31)) + (30,) * 10),) * 2)
        self.check((4, 3, 2, 1, 0, 1, 2, 3, 4, 5), ((0, 9), (3, 5), (2, 8), (8, 9)) * 10)


if __name__ == "__main__":
    unittest.main()
