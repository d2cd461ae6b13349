"""Promise 11: how many possible plans there are, and which."""

import sys
import unittest
from inspect import isgeneratorfunction
from itertools import islice
from random import Random

from chairwalks.counting import count_plans, each_plan
from chairwalks.errors import ChairError, TooLarge
from chairwalks.plans import is_plan, row_after, rule_plan
from tests.support import P, Q, ROW, large_cases, possible_plans, simulate, small_cases, ways

W = ((0, 1), (0, 1))
LONG = ((0, 9),) * 40


def stages_of(walkers):
    return sum(last - first for first, last in walkers)


def drawn_walkers(random, stations, stages):
    """Walkers who walk exactly so many stages in all."""
    walkers = []
    while stages > 0:
        walkers.append(random.choice([way for way in ways(stations) if way[1] - way[0] <= stages]))
        stages -= walkers[-1][1] - walkers[-1][0]
    return tuple(walkers)


def calls_made(call):
    """How many functions, those of Python itself included, a call calls."""
    calls = []
    sys.setprofile(lambda frame, event, _: calls.append(event) if event in ("call", "c_call") else None)
    try:
        call()
    finally:
        sys.setprofile(None)
    return len(calls)


class Examples(unittest.TestCase):
    def test_example(self):
        answers = [count_plans((1, 0), W), list(each_plan((1, 0), W))]
        self.assertEqual(repr(answers), "[3, [((), ()), ((), (0,)), ((0,), ())]]")


class Plans(unittest.TestCase):
    def test_against_all_choices(self):
        for row, walkers in small_cases():
            right = sorted(possible_plans(row, walkers))
            self.assertEqual(list(each_plan(row, walkers)), right, (row, walkers))
            self.assertEqual(count_plans(row, walkers), len(right), (row, walkers))

    def test_ascending_order(self):
        cases = [(row, walkers) for row, walkers, _ in large_cases(60)] + small_cases()[::3]
        for row, walkers in cases:
            plans = list(islice(each_plan(row, walkers), 200))
            for one, other in zip(plans, plans[1:]):
                self.assertLess(one, other, (row, walkers))
            self.assertEqual(plans[0], ((),) * len(walkers))

    def test_the_order_of_stages_and_of_walkers(self):
        self.assertEqual(list(each_plan((1, 1, 1, 0), ((0, 3),))), [
            ((),), ((0,),), ((0, 1),), ((0, 1, 2),), ((0, 2),), ((1,),), ((1, 2),), ((2,),)])
        self.assertEqual(list(each_plan((0, 1, 0), ((1, 2), (0, 2)))), [((), ()), ((), (1,)), ((1,), ())])

    def test_a_chair_that_was_brought(self):
        self.assertEqual(list(each_plan((1, 0, 0), ((0, 2),))), [((),), ((0,),), ((0, 1),)])
        self.assertEqual(list(each_plan((1, 0, 0), ((1, 2), (0, 1)))), [((), ()), ((), (0,))])
        self.assertEqual(list(each_plan((1, 0, 0), ((0, 1), (1, 2)))), [((), ()), ((0,), ()), ((0,), (1,))])

    def test_nobody_and_nothing(self):
        self.assertEqual(list(each_plan((3, 4), ())), [()])
        self.assertEqual(count_plans((3, 4), ()), 1)
        self.assertEqual(count_plans((0,) * 10, ()), 1)
        self.assertEqual(list(each_plan((0, 0, 5), ((0, 2), (1, 2)))), [((), ())])
        self.assertEqual(count_plans((0, 0, 5), ((0, 2), (1, 2))), 1)
        self.assertEqual(list(each_plan((0,) * 10, LONG)), [((),) * 40])

    def test_the_last_plan_is_none_without_a_next_one(self):
        plans = list(each_plan((50, 50, 50), P))
        self.assertEqual(plans[-1], ((0,), (1,), (1,)))
        self.assertEqual(len(plans), 16)

    def test_plans_are_tuples_of_tuples_of_numbers(self):
        for plan in each_plan(ROW, Q):
            self.assertIs(type(plan), tuple)
            for stages in plan:
                self.assertIs(type(stages), tuple)
                for stage in stages:
                    self.assertIs(type(stage), int)
        self.assertIs(type(count_plans(ROW, Q)), int)

    def test_chairs_are_never_more_or_fewer(self):
        # This is guarantee (d) of promise 2.
        for row, walkers, _ in large_cases(40):
            for plan in islice(each_plan(row, walkers), 50):
                self.assertEqual(sum(row_after(row, walkers, plan)), sum(row))

    def test_the_plan_of_the_rule_is_among_them(self):
        for row, walkers in small_cases()[::5]:
            self.assertIn(rule_plan(row, walkers), list(each_plan(row, walkers)))


class Limit(unittest.TestCase):
    def check_too_large(self, row, walkers):
        with self.assertRaises(ChairError) as caught:
            count_plans(row, walkers)
        self.assertIs(type(caught.exception), TooLarge)
        self.assertEqual(caught.exception.bound, 12)
        self.assertIs(type(caught.exception.bound), int)

    def test_eleven_twelve_and_thirteen_stages(self):
        self.assertEqual(count_plans((50, 0), ((0, 1),) * 11), 2 ** 11)
        self.assertEqual(count_plans((50, 0), ((0, 1),) * 12), 2 ** 12)
        self.check_too_large((50, 0), ((0, 1),) * 13)
        self.assertEqual(count_plans((50,) * 10, ((0, 9), (4, 6))), 2 ** 11)
        self.assertEqual(count_plans((50,) * 10, ((0, 9), (4, 7))), 2 ** 12)
        self.check_too_large((50,) * 10, ((0, 9), (4, 8)))
        self.check_too_large((50,) * 10, ((0, 9), (0, 9)))

    def test_the_stages_count_and_not_the_plans_or_the_walkers(self):
        self.assertEqual(count_plans((0, 0, 0), ((0, 2),) * 6), 1)
        self.check_too_large((0, 0, 0), ((0, 2),) * 6 + ((0, 1),))
        self.check_too_large((0,) * 10, LONG)
        self.check_too_large((0, 0), ((0, 1),) * 40)

    def test_twelve_stages_with_few_chairs(self):
        for row, walkers in [((1, 0), ((0, 1),) * 12), ((2, 1, 0), ((0, 2),) * 6), ((1, 0, 2, 0), ((0, 3),) * 4),
                             ((1, 1, 0, 0, 1, 0, 0), ((0, 6), (0, 6))), ((0, 1, 0, 1, 0), ((0, 4),) * 3)]:
            self.assertEqual(stages_of(walkers), 12)
            self.assertEqual(count_plans(row, walkers), len(possible_plans(row, walkers)))
        self.assertEqual(count_plans((1, 0), ((0, 1),) * 12), 13)

    def test_each_plan_has_no_limit(self):
        self.assertEqual(len(list(each_plan((1, 0), ((0, 1),) * 40))), 41)
        self.assertEqual(len(list(each_plan((50, 0), ((0, 1),) * 13))), 2 ** 13)


class Counts(unittest.TestCase):
    """count_plans does not go through the plans, and must count the same ones."""

    def check(self, row, walkers):
        self.assertEqual(count_plans(row, walkers), len(list(each_plan(row, walkers))), (row, walkers))

    def test_twelve_walkers_and_fifty_chairs(self):
        self.assertEqual(repr(count_plans((50, 50), ((0, 1),) * 12)), "4096")

    def test_drawn_rows_and_walkers(self):
        random = Random(61)
        for _ in range(400):
            stations = random.randint(2, 10)
            row = tuple(random.choice((0, 0, 1, 1, 2, 3, 4, 50)) for _ in range(stations))
            self.check(row, drawn_walkers(random, stations, random.randint(0, 9)))

    def test_twelve_stages(self):
        random = Random(67)
        for _ in range(40):
            stations = random.randint(2, 10)
            row = tuple(random.choice((0, 0, 0, 1, 2, 5)) for _ in range(stations))
            self.check(row, drawn_walkers(random, stations, 12))

    def test_just_enough_chairs_and_one_fewer(self):
        for many in range(1, 8):
            for chairs in range(many + 2):
                self.check((chairs, 0), ((0, 1),) * many)
                self.check((chairs, 1, 0), ((0, 1),) * (many // 2) + ((1, 2),) * (many - many // 2))
                self.check((1, chairs, 0), ((1, 2),) * (many // 2) + ((0, 1),) * (many - many // 2))
                self.check((chairs, 0, 0), ((0, 2),) * (many // 2) + ((0, 1),) * (many - many // 2))

    def test_it_takes_few_steps(self):
        random = Random(71)
        cases = [((50, 50), ((0, 1),) * 12), ((4, 50, 1), ((0, 1),) * 2 + ((1, 2),) * 10)]
        for _ in range(60):
            stations = random.randint(2, 10)
            row = tuple(random.choice((0, 1, 2, 3, 4, 50)) for _ in range(stations))
            cases.append((row, drawn_walkers(random, stations, 12)))
        for row, walkers in cases:
            self.assertLess(calls_made(lambda: count_plans(row, walkers)), 4000, (row, walkers))
        # One row for each of the walkers is enough here.
        self.assertLess(calls_made(lambda: count_plans(*cases[0])), 400)


class Generators(unittest.TestCase):
    def test_each_plan_is_a_generator(self):
        self.assertTrue(isgeneratorfunction(each_plan))
        plans = each_plan((1, 0), W)
        self.assertIs(iter(plans), plans)
        self.assertEqual([next(plans), next(plans), next(plans)], [((), ()), ((), (0,)), ((0,), ())])
        self.assertEqual(next(plans, "end"), "end")
        self.assertEqual(next(plans, "end"), "end")

    def test_the_first_plans_of_forty_long_ways(self):
        for row in ((50,) * 10, (1,) * 10, (3,) + (0,) * 9, (0,) * 8 + (2, 0)):
            plans = list(islice(each_plan(row, LONG), 600))
            self.assertEqual(plans[0], ((),) * 40)
            for one, other in zip(plans, plans[1:]):
                self.assertLess(one, other)
            for plan in plans[::17]:
                self.assertIs(is_plan(row, LONG, plan), True)
                self.assertIsNotNone(simulate(row, plan))
        plans = list(islice(each_plan((50,) * 10, LONG), 600))
        # The last walker alone has 2 ** 9 choices.
        self.assertEqual(plans[511], ((),) * 39 + ((8,),))
        self.assertEqual(plans[512], ((),) * 38 + ((0,), ()))

    def test_two_generators_at_once(self):
        right = list(each_plan(ROW, P))
        one, other = each_plan(ROW, P), each_plan(ROW, P)
        self.assertEqual([next(one), next(one)], right[:2])
        self.assertEqual(next(other), right[0])
        self.assertEqual(list(one), right[2:])
        self.assertEqual(list(other), right[1:])
        self.assertEqual(list(zip(each_plan(ROW, P), each_plan(ROW, P))), list(zip(right, right)))

    def test_generators_of_other_arguments_at_once(self):
        one, other = each_plan(ROW, P), each_plan((0, 1, 2), Q)
        mixed = [next(generator) for generator in (one, other) * 3]
        self.assertEqual(mixed[::2], list(islice(each_plan(ROW, P), 3)))
        self.assertEqual(mixed[1::2], list(islice(each_plan((0, 1, 2), Q), 3)))

    def test_equal_calls_return_equal_results(self):
        self.assertEqual(list(each_plan(ROW, P)), list(each_plan(ROW, P)))
        self.assertEqual(count_plans(ROW, P), count_plans(ROW, P))


if __name__ == "__main__":
    unittest.main()
