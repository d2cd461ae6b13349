"""Promises 8 and 9: wants, bars and certificates."""

import unittest

from chairwalks.plans import carried, rule_plan
from chairwalks.wants import (are_wants, bound_of, certificate_holds, find_certificate, needs_of,
                              tight_moments)
from tests.support import (HUGE, ODD_VALUES, P, Q, ROW, all_bars, all_choices, all_ends, all_moments,
                           all_rows, large_cases, plain_bound, plain_certificate, plain_missing,
                           possible_plans, simulate, small_cases, with_lists)


class Wants(unittest.TestCase):
    def test_example(self):
        answers = [are_wants(3, (0, 0, 2)), are_wants(3, (0, 0, 501)), needs_of((2, 0, 0), (0, 0, 2)),
                   needs_of((2, 0, 0), (0, 2, 2))]
        self.assertEqual(repr(answers), "[True, False, (0, 2, 2), (2, 4, 2)]")

    def test_wanted_numbers(self):
        for at in range(3):
            for number in (0, 1, 51, 499, 500):
                self.assertIs(are_wants(3, (0,) * at + (number,) + (500,) * (2 - at)), True, (at, number))
            for number in (-1, 501, -500, HUGE, -HUGE, None, True, False, "1", (), (1,), [], {}, 1.0):
                self.assertIs(are_wants(3, (0,) * at + (number,) + (500,) * (2 - at)), False, (at, number))

    def test_another_number_of_wants(self):
        for stations in range(2, 11):
            for many in range(13):
                self.assertIs(are_wants(stations, (0,) * many), many == stations, (stations, many))

    def test_wrong_kinds(self):
        for value in ODD_VALUES:
            self.assertIs(are_wants(3, value), False, value)
        for value in ([0, 0], {"a": 0, "b": 0}, "00", None, 2):
            self.assertIs(are_wants(2, value), False, value)


class Needs(unittest.TestCase):
    def plain_needs(self, row, wants):
        return tuple(max([0] + [plain_missing(row, wants, first, last) for last in range(first, len(row))])
                     for first in range(len(row)))

    def test_by_all_sums(self):
        for row in all_rows(2, 4):
            for wants in all_rows(2, 4):
                self.assertEqual(needs_of(row, wants), self.plain_needs(row, wants))
        for row in all_rows(4, 2):
            for wants in all_rows(4, 2):
                self.assertEqual(needs_of(row, wants), self.plain_needs(row, wants))

    def test_by_all_sums_at_ten_stations(self):
        cases = [(row, wants) for row, _, wants in large_cases(400) if len(row) == 10]
        self.assertGreater(len(cases), 20)
        cases.append(((50,) * 10, (500,) * 10))
        cases.append(((50,) * 10, (0,) * 10))
        cases.append(((5, 0) * 5, (0, 6) * 5))
        cases.append(((0,) * 10, (0,) * 9 + (500,)))
        for row, wants in cases:
            self.assertEqual(needs_of(row, wants), self.plain_needs(row, wants))
        self.assertEqual(needs_of((5, 0) * 5, (0, 6) * 5), (5, 10, 4, 9, 3, 8, 2, 7, 1, 6))

    def test_so_many_chairs_must_be_carried(self):
        for row, walkers in small_cases()[::9]:
            for plan in possible_plans(row, walkers):
                end = simulate(row, plan)
                needs = needs_of(row, end)
                self.assertEqual(needs[0], 0)
                for stage in range(len(row) - 1):
                    self.assertEqual(needs[stage + 1], sum(stages.count(stage) for stages in plan))


class Bounds(unittest.TestCase):
    def test_example(self):
        answers = [bound_of((2, 0, 0), Q, ()), bound_of((2, 0, 0), Q, (0, 1)), bound_of((2, 0, 0), Q, (1, 1)),
                   bound_of((2, 0, 0), Q, (0, 0))]
        self.assertEqual(repr(answers), "[0, 1, 3, 2]")

    def test_in_the_words_of_the_document(self):
        for row, walkers in small_cases():
            for stages in range(len(row)):
                for moments in all_moments(stages, walkers):
                    self.assertEqual(bound_of(row, walkers, moments), plain_bound(row, walkers, moments))

    def test_moments_0(self):
        # No chair of the row counts, and only those who walk the last of the stages do.
        self.assertEqual(bound_of((9, 9, 9), P, (0,)), 2)
        self.assertEqual(bound_of((9, 9, 9), P, (0, 0)), 2)
        self.assertEqual(bound_of((9, 9, 9), P + P, (0, 0)), 4)
        self.assertEqual(bound_of((9, 9, 9), (), (0, 0)), 0)

    def test_equal_moments(self):
        self.assertEqual(bound_of((9, 8, 7), P, (1, 1)), 9 + 8 + 2)
        self.assertEqual(bound_of((9, 8, 7), P, (2, 2)), 9 + 8 + 1)
        self.assertEqual(bound_of((1, 2, 3, 4), ((0, 3),) * 4, (2, 2, 2)), 1 + 2 + 3 + 2)

    def test_the_number_of_walkers_as_a_moment(self):
        self.assertEqual(bound_of((9, 8, 7), P, (3,)), 9)
        self.assertEqual(bound_of((9, 8, 7), P, (3, 3)), 9 + 8)
        self.assertEqual(bound_of((9, 8, 7), P, (0, 3)), 2 + 8)
        self.assertEqual(bound_of((9, 8, 7), P, (1, 3)), 9 + 1 + 8)
        self.assertEqual(bound_of((50,) * 10, ((0, 9),) * 40, (40,) * 9), 450)
        self.assertEqual(bound_of((50,) * 10, ((0, 9),) * 40, (0,) * 8 + (40,)), 90)

    def test_no_more_than_the_bound_can_be_carried(self):
        for row, walkers in small_cases()[::5]:
            plans = possible_plans(row, walkers)
            for stage in range(len(row) - 1):
                most = max(sum(stages.count(stage) for stages in plan) for plan in plans)
                bounds = [bound_of(row, walkers, moments) for moments in all_moments(stage + 1, walkers)]
                self.assertEqual(min(bounds), most, (row, walkers, stage))


class Certificates(unittest.TestCase):
    def check_found(self, row, walkers, wants):
        found = find_certificate(row, walkers, wants)
        self.assertIs(type(found), tuple)
        self.assertIs(certificate_holds(row, walkers, wants, found), True, (row, walkers, wants, found))
        return found

    def test_example(self):
        answers = [find_certificate((2, 0, 0), P, (0, 0, 2))[0], find_certificate((2, 0, 0), Q, (0, 0, 2)),
                   find_certificate((2, 1), (), (3, 0))]
        self.assertEqual(repr(answers), "['plan', ('bar', 2, (0, 1)), ('bar', 0, ())]")

    def test_example_of_certificate_holds(self):
        answers = [certificate_holds((2, 0, 0), Q, (0, 0, 2), ('bar', 2, (0, 1))),
                   certificate_holds((2, 0, 0), Q, (0, 0, 2), ('bar', 2, (0, 0))),
                   certificate_holds((2, 0, 0), Q, (0, 1, 1), ('plan', ((), (0,), (0, 1))))]
        self.assertEqual(repr(answers), "[True, False, True]")

    def test_a_plan_or_a_bar_and_never_both(self):
        # This is guarantee (b) of promise 2, too.
        for row, walkers in small_cases():
            ends = all_ends(row, walkers)
            bounds = [(station, moments, plain_bound(row, walkers, moments))
                      for station, moments in all_bars(row, walkers)]
            for wants in all_rows(len(row), 3 if len(row) < 4 else 2):
                met = any(all(map(int.__le__, wants, end)) for end in ends)
                barred = any(plain_missing(row, wants, len(moments), station) > bound
                             for station, moments, bound in bounds)
                self.assertIs(barred, not met, (row, walkers, wants))
                found = self.check_found(row, walkers, wants)
                self.assertEqual(found[0], "plan" if met else "bar", (row, walkers, wants))
                self.assertIs(plain_certificate(row, walkers, wants, found), True, (row, walkers, wants, found))

    def test_all_plans_and_all_bars(self):
        for row, walkers in small_cases()[::37]:
            plans = possible_plans(row, walkers)
            for wants in all_rows(len(row), 2)[::2]:
                for plan in plans:
                    meets = all(map(int.__le__, wants, simulate(row, plan)))
                    self.assertIs(certificate_holds(row, walkers, wants, ("plan", plan)), meets)
                for station, moments in all_bars(row, walkers):
                    bar = ("bar", station, moments)
                    right = plain_certificate(row, walkers, wants, bar)
                    self.assertIs(certificate_holds(row, walkers, wants, bar), right, (row, walkers, wants, bar))

    def test_large_cases(self):
        words = []
        for row, walkers, wants in large_cases(600):
            found = self.check_found(row, walkers, wants)
            words.append(found[0])
            if found[0] == "bar":
                _, station, moments = found
                self.assertLess(plain_bound(row, walkers, moments), plain_missing(row, wants, len(moments), station))
            else:
                end = simulate(row, found[1])
                self.assertTrue(all(map(int.__le__, wants, end)), (row, walkers, wants, found))
        self.assertGreater(words.count("plan"), 50)
        self.assertGreater(words.count("bar"), 50)

    def test_what_is_just_enough(self):
        for row, walkers, _ in large_cases(200):
            end = simulate(row, rule_plan(row, walkers))
            self.assertEqual(self.check_found(row, walkers, end)[0], "plan")
            more = end[:-1] + (end[-1] + 1,)
            self.assertEqual(self.check_found(row, walkers, more)[0], "bar")

    def test_the_moments_that_are_found_have_the_least_bound(self):
        cases = small_cases() + [(row, walkers) for row, walkers, _ in large_cases(300)]
        for row, walkers in cases:
            counts = carried(row, walkers)
            for stage in range(-1, len(row) - 1):
                moments = tight_moments(row, walkers, counts, stage)
                self.assertEqual(len(moments), stage + 1)
                self.assertEqual(moments, tuple(sorted(moments)))
                most = counts[stage][-1] if stage >= 0 else 0
                self.assertEqual(plain_bound(row, walkers, moments), most, (row, walkers, moments))

    def test_the_greatest_numbers(self):
        self.assertEqual(self.check_found((50,) * 10, ((0, 9),) * 40, (500,) * 10)[0], "bar")
        self.assertEqual(self.check_found((50,) * 10, ((0, 9),) * 40, (10,) + (50,) * 8 + (90,))[0], "plan")
        self.assertEqual(self.check_found((50,) * 10, ((0, 9),) * 40, (10,) + (50,) * 8 + (91,))[0], "bar")

    def test_chairs_that_are_wanted_where_they_stand_stay_there(self):
        self.assertEqual(find_certificate((2, 0), ((0, 1),) * 2, (2, 0)), ("plan", ((), ())))
        self.assertEqual(find_certificate((2, 0), ((0, 1),) * 2, (3, 0))[0], "bar")
        self.assertEqual(self.check_found((2, 0, 0), ((0, 2),) * 2, (1, 1, 0))[0], "plan")

    def test_the_bar_with_no_moments(self):
        self.assertIs(certificate_holds((2, 1), (), (3, 0), ("bar", 0, ())), True)
        self.assertIs(certificate_holds((2, 1), (), (3, 0), ("bar", 1, ())), False)
        self.assertIs(certificate_holds((2, 1), ((0, 1),), (3, 1), ("bar", 1, ())), True)
        self.assertIs(certificate_holds((2, 1), ((0, 1),), (0, 4), ("bar", 0, ())), False)
        self.assertIs(certificate_holds((2, 1), ((0, 1),), (0, 4), ("bar", 1, ())), True)
        self.assertIs(certificate_holds((2, 1), ((0, 1),), (0, 3), ("bar", 1, ())), False)
        self.assertEqual(find_certificate((0, 0), (), (0, 1))[0], "bar")

    def test_a_sum_that_is_just_equal_to_the_bound(self):
        self.assertIs(certificate_holds(ROW, Q, (0, 0, 1), ("bar", 2, (0, 1))), False)
        self.assertIs(certificate_holds(ROW, Q, (0, 0, 2), ("bar", 2, (0, 1))), True)
        for row, walkers in small_cases()[::11]:
            for station, moments in all_bars(row, walkers):
                # What is wanted at the station makes the sum as great as the bound.
                wants = [0] * len(row)
                bound = plain_bound(row, walkers, moments)
                wants[station] = bound - plain_missing(row, wants, len(moments), station)
                bar = ("bar", station, moments)
                self.assertIs(certificate_holds(row, walkers, tuple(wants), bar), False, (row, walkers, bar))
                wants[station] += 1
                self.assertIs(certificate_holds(row, walkers, tuple(wants), bar), True, (row, walkers, bar))

    def test_wrong_moments(self):
        wants = (0, 0, 0, 500)
        row = (1, 1, 1, 0)
        self.assertIs(certificate_holds(row, P, wants, ("bar", 3, (0, 2, 3))), True)
        for moments in ((0, 2, 1), (3, 2), (1, 0), (2, 1, 3), (4,), (0, 4), (0, 1, 4), (41,), (HUGE,), (-1,),
                        (-1, 0), (0, -1), (-HUGE, 0), (0, 0, 0, 0), (1, 1, 1, 1), (None,), ("0",), ((0,),),
                        ([0],), [0], [], None, 0, "", "0", {}, True, (0.0,)):
            self.assertIs(certificate_holds(row, P, wants, ("bar", 3, moments)), False, moments)

    def test_too_many_or_too_few_moments_for_the_station(self):
        wants = (500, 500, 500)
        for station in range(3):
            for moment in (0, 3):
                for many in (0, 1, 2, 3, 4, 5, 10, 11, 900):
                    bar = ("bar", station, (moment,) * many)
                    self.assertIs(certificate_holds(ROW, P, wants, bar), many <= station, bar)
        # Moments of fewer stages are allowed, but the sum has more stations then.
        self.assertIs(certificate_holds(ROW, Q, (0, 0, 2), ("bar", 2, (0,))), False)
        self.assertIs(certificate_holds(ROW, Q, (0, 0, 2), ("bar", 2, ())), False)

    def test_wrong_stations(self):
        for station in (-1, -3, 3, 4, HUGE, -HUGE, None, True, False, "2", (2,), [2], {}, 2.0):
            for moments in ((), (0,), (0, 1)):
                value = ("bar", station, moments)
                self.assertIs(certificate_holds(ROW, Q, (500, 500, 500), value), False, value)

    def test_certificates_with_a_part_replaced(self):
        plan = ((0,), (1,), (0, 1))
        bar = ("bar", 2, (0, 1))
        self.assertIs(certificate_holds(ROW, P, (0, 0, 2), ("plan", plan)), True)
        self.assertIs(certificate_holds(ROW, Q, (0, 0, 2), bar), True)
        # (0, 1) is a bar that the document gives; no other one is a bar for these wants.
        others = ODD_VALUES + [(0,), (1,), (0, 2), (1, 2), (2, 1), [0, 1], (0, 1, 1), (0, (1,)), (0, 0), (1, 1)]
        for other in others:
            self.assertIs(certificate_holds(ROW, Q, (0, 0, 2), ("bar", 2, other)), False, other)
            self.assertIs(certificate_holds(ROW, P, (0, 0, 2), ("plan", other)), False, other)
            self.assertIs(certificate_holds(ROW, P, (0, 0, 2), (other, plan)), other == "plan", other)
            self.assertIs(certificate_holds(ROW, Q, (0, 0, 2), (other, 2, (0, 1))), other == "bar", other)
            if other != 2:
                self.assertIs(certificate_holds(ROW, Q, (0, 0, 2), ("bar", other, (0, 1))), False, other)
            for at in range(3):
                tampered = plan[:at] + (other,) + plan[at + 1:]
                if other not in ((), (0,), (1,)):
                    self.assertIs(certificate_holds(ROW, P, (0, 0, 2), ("plan", tampered)), False, tampered)

    def test_another_first_word(self):
        for word in ("", "Plan", "PLAN", "plan ", "bar", "rule", None, 0, True, ("plan",), ["plan"], {"plan": 1}):
            self.assertIs(certificate_holds(ROW, P, (0, 0, 2), (word, ((0,), (1,), (0, 1)))), False, word)
        for word in ("", "Bar", "BAR", "bar ", "plan", None, 0, True, ("bar",), ["bar"], {"bar": 1}):
            self.assertIs(certificate_holds(ROW, Q, (0, 0, 2), (word, 2, (0, 1))), False, word)

    def test_lists_in_the_place_of_tuples(self):
        for value in with_lists(("plan", ((0,), (1,), (0, 1)))):
            self.assertIs(certificate_holds(ROW, P, (0, 0, 2), value), False, value)
        for value in with_lists(("bar", 2, (0, 1))):
            self.assertIs(certificate_holds(ROW, Q, (0, 0, 2), value), False, value)

    def test_too_short_and_too_long(self):
        plan = ("plan", ((0,), (1,), (0, 1)))
        bar = ("bar", 2, (0, 1))
        for value in ((), plan[:1], plan + ((),), plan + plan[1:], plan[1:], (plan,), plan + (None,)):
            self.assertIs(certificate_holds(ROW, P, (0, 0, 2), value), False, value)
        for value in ((), bar[:1], bar[:2], bar + ((),), bar[1:], (bar,), bar + (None,), ("bar", 0, 1, 2)):
            self.assertIs(certificate_holds(ROW, Q, (0, 0, 2), value), False, value)

    def test_a_possible_plan_that_does_not_meet_the_wants(self):
        for plan in possible_plans(ROW, P):
            meets = simulate(ROW, plan)[2] >= 2
            self.assertIs(certificate_holds(ROW, P, (0, 0, 2), ("plan", plan)), meets, plan)
        self.assertIs(certificate_holds(ROW, P, (0, 0, 2), ("plan", ((0,), (1,), (1,)))), False)
        self.assertIs(certificate_holds((9, 0, 0), P, (0, 0, 0), ("plan", ((0, 0), (), ()))), False)

    def test_true_or_false_for_any_value(self):
        for wants in ((0, 0, 0), (0, 0, 2), (0, 1, 1), (500, 500, 500)):
            right = self.all_certificates(ROW, P, wants)
            for value in ODD_VALUES:
                for given in (value, ("plan", value), ("bar", value, ()), ("bar", 2, value), (value, value),
                              (value, value, value), [value], {"a": value}, ("plan", (value, value, value)),
                              ("plan", ((value,), (), ())), ("plan", ((0,), (value,), ())),
                              ("bar", 2, (value, value)), ("bar", value, (0,))):
                    answer = certificate_holds(ROW, P, wants, given)
                    self.assertIs(answer, repr(given) in right, (wants, given))

    def all_certificates(self, row, walkers, wants):
        """The reprs of all certificates, which tell 1 from True and tuples from lists."""
        forms = [("plan", plan) for plan in all_choices(walkers)]
        forms += [("bar", station, moments) for station, moments in all_bars(row, walkers)]
        return {repr(form) for form in forms if plain_certificate(row, walkers, wants, form)}


if __name__ == "__main__":
    unittest.main()
