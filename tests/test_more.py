"""Promise 10: further questions about a row and its walkers."""

import unittest
from itertools import product

from chairwalks.more import enough_walkers, fewest_chairs, idle_walkers, is_reachable, most_at
from chairwalks.wants import find_certificate
from tests.support import (HUGE, ODD_VALUES, P, Q, ROW, all_ends, all_rows, all_walkers, exchanged,
                           large_cases, plain_bound, plain_missing, plain_most, possible_plans, simulate,
                           small_cases, twins, with_lists)


def any_meets(ends, wants):
    """Whether one of the rows has as many chairs as wanted everywhere."""
    return any(all(map(int.__le__, wants, end)) for end in ends)


def least_met(ends_of, wants):
    """The number of the first of several sets of rows that has one with as many chairs as wanted, or None."""
    for number, ends in enumerate(ends_of):
        if any_meets(ends, wants):
            return number
    return None


def without(walkers, number):
    return walkers[:number] + walkers[number + 1:]


class Examples(unittest.TestCase):
    def test_enough_walkers(self):
        answers = [enough_walkers((2, 0, 0), P, (0, 0, 2)), enough_walkers((2, 0, 0), P, (0, 0, 1)),
                   enough_walkers((2, 0, 0), Q, (0, 0, 2)), enough_walkers((2, 0, 0), Q, (2, 0, 0))]
        self.assertEqual(repr(answers), "[3, 2, None, 0]")

    def test_most_at(self):
        answers = [most_at((2, 0, 0), Q, 0), most_at((2, 0, 0), Q, 1), most_at((2, 0, 0), Q, 2)]
        self.assertEqual(repr(answers), "[2, 2, 1]")

    def test_fewest_chairs(self):
        answers = [fewest_chairs((2, 0, 0), Q, (0, 0, 2), 0), fewest_chairs((2, 0, 0), Q, (0, 0, 2), 1),
                   fewest_chairs((2, 0, 0), Q, (0, 0, 2), 2), fewest_chairs((2, 0, 0), Q, (0, 0, 1), 1)]
        self.assertEqual(repr(answers), "[None, 1, 1, 0]")

    def test_idle_walkers(self):
        answers = [idle_walkers((2, 0, 0), P, (0, 0, 1)), idle_walkers((2, 0, 0), P, (0, 0, 2))]
        self.assertEqual(repr(answers), "[(0, 1, 2), ()]")

    def test_is_reachable(self):
        answers = [is_reachable((2, 0, 0), P, (0, 0, 2)), is_reachable((2, 0, 0), Q, (0, 0, 2)),
                   is_reachable((2, 0, 0), Q, (1, 1, 0)), is_reachable((2, 0, 0), Q, (1, 0, 0))]
        self.assertEqual(repr(answers), "[True, False, True, False]")


class SmallCorridors(unittest.TestCase):
    """Against all possible plans and all small wants."""

    def all_wants(self, row):
        return all_rows(len(row), 3 if len(row) < 4 else 2)

    def test_enough_walkers(self):
        answers = []
        for row, walkers in small_cases()[::3]:
            ends_of = [all_ends(row, walkers[:many]) for many in range(len(walkers) + 1)]
            for wants in self.all_wants(row)[::2]:
                right = least_met(ends_of, wants)
                found = enough_walkers(row, walkers, wants)
                self.assertEqual(repr(found), repr(right), (row, walkers, wants))
                answers.append(found)
        for answer in (None, 0, 1, 2, 3):
            self.assertGreater(answers.count(answer), 20, answer)

    def test_most_at(self):
        for row, walkers in small_cases():
            ends = all_ends(row, walkers)
            for station in range(len(row)):
                found = most_at(row, walkers, station)
                self.assertEqual(found, max(end[station] for end in ends), (row, walkers, station))
                self.assertIs(type(found), int)

    def test_fewest_chairs(self):
        answers = []
        cases = [(row, walkers) for row in all_rows(2, 2) for walkers in all_walkers(2, 3)]
        cases += [(row, walkers) for row in all_rows(3, 1) for walkers in all_walkers(3, 2)]
        cases += [(row, walkers) for row, walkers in small_cases()[-120::9]]
        for row, walkers in cases:
            all_wants = all_rows(len(row), 3 if len(row) < 4 else 2)[::2]
            for station in range(len(row)):
                # So many more leave nobody without a chair here, and no want open here.
                ends_of = [all_ends(exchanged(row, station, row[station] + more), walkers) for more in range(8)]
                for wants in all_wants:
                    found = fewest_chairs(row, walkers, wants, station)
                    right = least_met(ends_of, wants)
                    self.assertEqual(repr(found), repr(right), (row, walkers, wants, station))
                    answers.append(found)
        for answer in (None, 0, 1, 2, 3):
            self.assertGreater(answers.count(answer), 20, answer)

    def test_idle_walkers(self):
        answers = []
        for row, walkers in small_cases()[::3]:
            ends_of = [all_ends(row, without(walkers, number)) for number in range(len(walkers))]
            for wants in self.all_wants(row)[::2]:
                found = idle_walkers(row, walkers, wants)
                right = tuple(number for number, ends in enumerate(ends_of) if any_meets(ends, wants))
                self.assertEqual(repr(found), repr(right), (row, walkers, wants))
                answers.append(found)
        for answer in ((), (0,), (1,), (2,), (0, 1), (0, 2), (1, 2), (0, 1, 2)):
            self.assertGreater(answers.count(answer), 5, answer)

    def test_is_reachable(self):
        for row, walkers in small_cases()[::2]:
            ends = all_ends(row, walkers)
            reached = 0
            for value in product(range(sum(row) + 1), repeat=len(row)):
                if abs(sum(value) - sum(row)) < 2:
                    found = is_reachable(row, walkers, value)
                    self.assertIs(found, value in ends, (row, walkers, value))
                    reached += found
            self.assertEqual(reached, len(ends))


class EnoughWalkers(unittest.TestCase):
    def test_without_walkers(self):
        self.assertEqual(enough_walkers((2, 3), (), (2, 3)), 0)
        self.assertEqual(enough_walkers((2, 3), (), (0, 0)), 0)
        self.assertIs(enough_walkers((2, 3), (), (1, 4)), None)
        self.assertIs(enough_walkers((2, 3), (), (3, 0)), None)

    def test_all_and_all_but_one(self):
        for many in (1, 2, 39, 40):
            walkers = ((0, 1),) * many
            self.assertEqual(enough_walkers((50, 0), walkers, (0, many)), many)
            self.assertEqual(enough_walkers((50, 0), walkers, (0, many - 1)), many - 1)
            self.assertIs(enough_walkers((50, 0), walkers, (0, many + 1)), None)
            self.assertIs(enough_walkers((50, 0), walkers, (51 - many, many)), None)
            self.assertEqual(enough_walkers((50, 0), walkers, (50 - many, many)), many)

    def test_more_chairs_wanted_than_there_are(self):
        self.assertIs(enough_walkers((50,) * 10, ((0, 9),) * 40, (500,) * 10), None)
        self.assertIs(enough_walkers((1, 0, 0), P, (0, 1, 1)), None)
        self.assertIs(enough_walkers((1, 0), ((0, 1),) * 3, (1, 1)), None)

    def test_chairs_do_not_go_back(self):
        self.assertIs(enough_walkers((0, 5, 0), ((0, 2),) * 9, (1, 0, 0)), None)

    def test_large_cases(self):
        answers = []
        for row, walkers, wants in large_cases(300):
            found = enough_walkers(row, walkers, wants)
            if found is None:
                self.assertEqual(find_certificate(row, walkers, wants)[0], "bar")
            else:
                self.assertEqual(find_certificate(row, walkers[:found], wants)[0], "plan")
                if found > 0:
                    self.assertEqual(find_certificate(row, walkers[:found - 1], wants)[0], "bar")
            answers.append(found)
        self.assertGreater(len(set(answers)), 10)


class MostAt(unittest.TestCase):
    def test_the_first_station(self):
        for chairs in (0, 1, 50):
            self.assertEqual(most_at((chairs, 5, 5), P * 5, 0), chairs)

    def test_chairs_that_pass_the_station_may_stay_there(self):
        self.assertEqual(most_at((9, 0, 0), ((0, 2),) * 9, 1), 9)
        self.assertEqual(most_at((9, 4, 0), ((1, 2),) * 9, 1), 4)
        self.assertEqual(most_at((9, 4, 0), ((0, 1), (1, 2)) * 9, 1), 13)

    def test_the_greatest_numbers(self):
        row = (50,) * 10
        self.assertEqual([most_at(row, ((0, 9),) * 40, station) for station in range(10)], [50] + [90] * 9)
        self.assertEqual([most_at(row, (), station) for station in range(10)], [50] * 10)

    def test_large_cases(self):
        for row, walkers, _ in large_cases(150):
            for station in range(len(row)):
                found = most_at(row, walkers, station)
                self.assertEqual(found, plain_most(row, walkers, station))
                wants = exchanged((0,) * len(row), station, found)
                word, plan = find_certificate(row, walkers, wants)
                self.assertEqual(word, "plan")
                self.assertGreaterEqual(simulate(row, plan)[station], found)
                wants = exchanged(wants, station, found + 1)
                word, at, moments = find_certificate(row, walkers, wants)
                self.assertEqual(word, "bar")
                self.assertGreater(plain_missing(row, wants, len(moments), at), plain_bound(row, walkers, moments))


class FewestChairs(unittest.TestCase):
    def test_very_many_chairs(self):
        self.assertEqual(fewest_chairs((0, 0), (), (500, 0), 0), 500)
        self.assertEqual(fewest_chairs((0,) * 10, (), (0,) * 9 + (500,), 9), 500)
        self.assertEqual(fewest_chairs((50, 0), (), (500, 0), 0), 450)
        self.assertEqual(fewest_chairs((0, 0), ((0, 1),) * 40, (500, 40), 0), 540)
        self.assertEqual(fewest_chairs((0, 0), ((0, 1),) * 39, (500, 40), 0), None)
        self.assertEqual(fewest_chairs((0,) * 10, ((0, 9),) * 40, (500,) + (4,) * 9, 0), 536)
        self.assertEqual(fewest_chairs((0,) * 10, ((0, 9),) * 40, (0,) * 9 + (40,), 0), 40)
        self.assertEqual(fewest_chairs((50, 0), ((0, 1),) * 40, (20, 40), 0), 10)

    def test_none_where_chairs_do_not_come(self):
        self.assertIs(fewest_chairs((0, 0), (), (500, 1), 0), None)
        self.assertIs(fewest_chairs((5, 0, 0), ((0, 1),) * 9, (0, 0, 1), 0), None)
        self.assertIs(fewest_chairs((0, 5), ((0, 1),) * 9, (1, 0), 1), None)
        self.assertIs(fewest_chairs((0,) * 10, ((0, 9),) * 40, (0,) * 9 + (41,), 0), None)
        self.assertEqual(fewest_chairs((0,) * 10, ((0, 9),) * 40, (0,) * 9 + (41,), 9), 41)
        self.assertEqual(fewest_chairs((50,) + (0,) * 9, ((0, 9),) * 40, (0,) * 9 + (41,), 9), 1)

    def test_no_chairs_are_needed(self):
        for station in range(3):
            self.assertEqual(fewest_chairs((2, 0, 0), P, (0, 0, 2), station), 0)
            self.assertEqual(fewest_chairs((0, 0, 0), (), (0, 0, 0), station), 0)
        self.assertEqual(fewest_chairs((50,) * 10, ((0, 9),) * 40, (10,) + (50,) * 8 + (90,), 4), 0)

    def test_as_many_as_are_wanted_in_all(self):
        self.assertEqual(fewest_chairs((0, 0, 0), ((0, 1), (1, 2), (0, 1)), (0, 1, 1), 0), 2)
        self.assertEqual(fewest_chairs((0, 0, 3), ((0, 1), (1, 2), (0, 1)), (0, 1, 4), 0), 2)
        for total in (1, 2, 3):
            self.assertEqual(fewest_chairs((0, 0), ((0, 1),) * total, (0, total), 0), total)
            self.assertEqual(fewest_chairs((0, 0), ((0, 1),) * total, (1, total), 0), total + 1)
            self.assertIs(fewest_chairs((0, 0), ((0, 1),) * total, (0, total + 1), 0), None)

    def test_large_cases(self):
        answers = []
        for row, walkers, wants in large_cases(150):
            for station in range(len(row)):
                found = fewest_chairs(row, walkers, wants, station)
                answers.append(found)
                if found is None:
                    more = exchanged(row, station, 10 ** 5)
                    self.assertEqual(find_certificate(more, walkers, wants)[0], "bar")
                    continue
                self.assertIs(type(found), int)
                more = exchanged(row, station, row[station] + found)
                self.assertEqual(find_certificate(more, walkers, wants)[0], "plan")
                if found > 0:
                    less = exchanged(row, station, row[station] + found - 1)
                    self.assertEqual(find_certificate(less, walkers, wants)[0], "bar")
        self.assertGreater(len(set(answers)), 8)


class IdleWalkers(unittest.TestCase):
    def test_each_one_alone(self):
        walkers = ((0, 1),) * 5
        self.assertEqual(idle_walkers((5, 0), walkers, (0, 5)), ())
        self.assertEqual(idle_walkers((5, 0), walkers, (0, 4)), (0, 1, 2, 3, 4))
        self.assertEqual(idle_walkers((5, 0, 0), walkers + ((1, 2),), (0, 4, 1)), ())
        self.assertEqual(idle_walkers((5, 0, 0), walkers + ((1, 2),), (0, 3, 1)), (0, 1, 2, 3, 4))
        self.assertEqual(idle_walkers((5, 0, 0), walkers + ((1, 2),), (0, 5, 0)), (5,))

    def test_wants_that_cannot_be_met(self):
        self.assertEqual(idle_walkers((2, 0, 0), Q, (0, 0, 2)), ())
        self.assertEqual(idle_walkers((2, 0), ((0, 1),) * 40, (0, 3)), ())
        self.assertEqual(idle_walkers((2, 0), (), (0, 1)), ())

    def test_nobody_and_everybody(self):
        self.assertEqual(idle_walkers((2, 0), (), (2, 0)), ())
        self.assertEqual(idle_walkers((2, 0), ((0, 1),) * 40, (2, 0)), tuple(range(40)))

    def test_large_cases(self):
        for row, walkers, wants in large_cases(60):
            right = [number for number in range(len(walkers))
                     if find_certificate(row, without(walkers, number), wants)[0] == "plan"]
            self.assertEqual(idle_walkers(row, walkers, wants), tuple(right))


class IsReachable(unittest.TestCase):
    def test_any_value(self):
        for value in ODD_VALUES + [1.0, b"\x02\x00\x00", {"0": 2}, (2.0, 0, 0), ("2", 0, 0), (2, 0, None)]:
            self.assertIs(is_reachable(ROW, P, value), False, value)

    def test_true_false_and_lists(self):
        for row, walkers, value in [((1, 0), ((0, 1),), (0, 1)), ((1, 1, 0), P, (0, 1, 1)), ((0, 1), (), (0, 1))]:
            for other in twins(value) + with_lists(value):
                for _ in range(2):
                    self.assertIs(is_reachable(row, walkers, value), True, value)
                    self.assertIs(is_reachable(row, walkers, other), False, other)

    def test_other_lengths(self):
        for value in ((), (2,), (2, 0), (2, 0, 0, 0), (2,) + (0,) * 999, (0, 2), (0, 0, 0, 2)):
            self.assertIs(is_reachable(ROW, P, value), False, value)
        self.assertIs(is_reachable(ROW, P, (2, 0, 0)), True)

    def test_numbers_outside(self):
        for value in ((3, -1, 0), (3, 0, -1), (-1, 3, 0), (2, 1, -1), (HUGE, -HUGE, 2), (2, HUGE, -HUGE),
                      (2, 0, 1), (1, 0, 0), (0, 0, 0), (HUGE, 0, 0), (-2, 2, 2)):
            self.assertIs(is_reachable(ROW, P, value), False, value)

    def test_more_chairs_than_a_row_may_have(self):
        row = (50,) * 10
        walkers = ((0, 9),) * 40
        self.assertIs(is_reachable(row, walkers, (10,) + (50,) * 8 + (90,)), True)
        self.assertIs(is_reachable(row, walkers, (9,) + (50,) * 8 + (91,)), False)
        self.assertIs(is_reachable(row, walkers, (10,) + (50,) * 7 + (90, 50)), True)
        self.assertIs(is_reachable(row, walkers, (50,) * 7 + (10, 90, 50)), True)
        self.assertIs(is_reachable(row, walkers, (50,) * 7 + (9, 91, 50)), False)
        self.assertIs(is_reachable(row, walkers, (50,) * 8 + (51, 49)), False)
        self.assertIs(is_reachable((50, 50), ((0, 1),) * 40, (10, 90)), True)

    def test_chairs_do_not_go_back(self):
        self.assertIs(is_reachable((0, 1), ((0, 1),), (1, 0)), False)
        self.assertIs(is_reachable((1, 1, 0), P, (2, 0, 0)), False)

    def test_each_end_of_a_plan(self):
        for row, walkers in small_cases()[::19]:
            for plan in possible_plans(row, walkers):
                self.assertIs(is_reachable(row, walkers, simulate(row, plan)), True)


if __name__ == "__main__":
    unittest.main()
