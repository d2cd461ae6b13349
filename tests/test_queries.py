"""Promise 15: what corridors answer, their texts, and which of them are equal."""

import unittest
from inspect import isgeneratorfunction
from itertools import product
from random import Random

from chairwalks.corridors import Corridor, GuardedCorridor
from chairwalks.errors import BadText, NoStation, NoVersion
from chairwalks.more import most_at
from chairwalks.plans import row_after, rule_plan
from chairwalks.texts import corridor_text, parse_corridor
from chairwalks.values import Chairs
from chairwalks.wants import find_certificate
from tests.support import (HUGE, ODD_VALUES, P, Q, Case, drawn_state, large_cases, plain_edit, plain_met, plain_most,
                           plain_walk, told)
from tests.test_corridors import NO_NUMBERS, edited

EDITS = [("put", 1, 1), ("want", 2, 3), ("come", 1, 2), ("stay", 0), ("take", 0, 1)]


def start():
    return Corridor((2, 0, 0), Q, (0, 0, 2))


def five():
    """A corridor with five edits, and the states before and after each of them."""
    corridor = start()
    states = [corridor.state()]
    for edit in EDITS:
        states.append(plain_edit(states[-1], edit)[0])
    corridor.attempt(EDITS)
    return corridor, states


class Examples(Case):
    def test_state(self):
        corridor = Corridor((1, 0), (), (0, 1))
        answers = [corridor.come(0, 1), corridor.state(), corridor.state(version=0)]
        self.assertEqual(repr(answers), "[1, ((1, 0), ((0, 1),), (0, 1)), ((1, 0), (), (0, 1))]")

    def test_certificate_and_most(self):
        corridor = Corridor((2, 0, 0), Q, (0, 0, 2))
        self.assertEqual(repr([corridor.certificate(), corridor.most(2)]), "[('bar', 2, (0, 1)), 1]")

    def test_walk(self):
        found = list(Corridor((2, 0, 0), Q, (0, 0, 2)).walk())
        self.assertEqual(repr(found), "[(0, (), (2, 0, 0)), (1, (0,), (1, 1, 0)), (2, (0, 1), (0, 1, 1))]")

    def test_edits(self):
        corridor = Corridor((1, 0), (), (0, 1))
        self.assertEqual(repr([corridor.come(0, 1), corridor.edits()]), "[1, (('come', 0, 1),)]")

    def test_read(self):
        corridor = Corridor.read('2,0,0 0-1 1-2 for 0,0,1')
        answers = [corridor.row, corridor.walkers, corridor.wants, corridor.met]
        self.assertEqual(repr(answers), "[(2, 0, 0), ((0, 1), (1, 2)), (0, 0, 1), True]")

    def test_str_and_equal(self):
        answers = [str(Corridor((2, 0, 0), Q, (0, 0, 2))),
                   Corridor((2, 0, 0), P, (0, 0, 0)) == Corridor((2, 0, 0), Q, (0, 0, 0))]
        self.assertEqual(repr(answers), "['3 stations, 2 chairs, 3 walkers, not met, 0 edits', False]")


class Versions(Case):
    def test_each_version(self):
        corridor, states = five()
        for version, state in enumerate(states):
            row, walkers, wants = state
            self.assertEqual(corridor.state(version=version), state)
            self.assertEqual(corridor.certificate(version=version), find_certificate(row, walkers, wants))
            for station in range(3):
                self.assertEqual(corridor.most(station, version=version), most_at(row, walkers, station))
        self.assertEqual([corridor.certificate(version=version)[0] for version in range(6)],
                         ["bar", "plan", "bar", "plan", "bar", "bar"])
        self.assertEqual([corridor.most(2, version=version) for version in range(6)], [1, 2, 2, 3, 2, 2])

    def test_none_is_now(self):
        corridor, states = five()
        for many in range(5, -1, -1):
            row, walkers, wants = states[many]
            self.assertEqual(corridor.state(), states[many])
            self.assertEqual(corridor.state(version=None), states[many])
            self.assertEqual(corridor.certificate(), find_certificate(row, walkers, wants))
            self.assertEqual(corridor.certificate(version=None), find_certificate(row, walkers, wants))
            for station in range(3):
                self.assertEqual(corridor.most(station), most_at(row, walkers, station))
                self.assertEqual(corridor.most(station, version=None), most_at(row, walkers, station))
            if many:
                corridor.undo()

    def test_versions_that_do_not_stand(self):
        corridor, _ = five()
        corridor.undo()
        no_numbers = [value for value in NO_NUMBERS if value is not None]
        for value in no_numbers + [-1, -4, 5, 6, 60, HUGE, -HUGE]:
            for call in (lambda: corridor.state(version=value), lambda: corridor.certificate(version=value),
                         lambda: corridor.most(0, version=value), lambda: corridor.most(9, version=value),
                         lambda: corridor.most(None, version=value)):
                self.check_raises_with(NoVersion, value, call)

    def test_true_and_false_right_after_1_and_0(self):
        corridor, states = five()
        for _ in range(2):
            for version in (0, 1):
                self.assertEqual(corridor.state(version=version), states[version])
                for call in (corridor.state, corridor.certificate, lambda version: corridor.most(0, version=version)):
                    self.check_raises(NoVersion, {"value": bool(version)}, lambda: call(version=bool(version)))
        fresh = start()
        self.check_raises(NoVersion, {"value": False}, lambda: fresh.state(version=False))
        self.check_raises(NoVersion, {"value": 1}, lambda: fresh.state(version=1))

    def test_stations_of_most(self):
        corridor, _ = five()
        for value in NO_NUMBERS + [-1, -3, 3, 4, HUGE, -HUGE]:
            for version in (None, 0, 5):
                self.check_raises_with(NoStation, value, lambda: corridor.most(value, version=version))
            self.check_raises_with(NoStation, value, lambda: corridor.most(value))

    def test_edits_that_came_after_undo(self):
        corridor, states = five()
        self.assertEqual([corridor.undo(), corridor.undo(), corridor.want(0, 9)], [4, 3, 4])
        self.assertEqual(corridor.state(version=3), states[3])
        row, walkers, wants = states[3]
        self.assertEqual(corridor.state(version=4), (row, walkers, (9,) + wants[1:]))
        self.check_raises(NoVersion, {"value": 5}, lambda: corridor.state(version=5))
        self.assertEqual(corridor.edits(), (*EDITS[:3], ("want", 0, 9)))

    def test_sixty_versions(self):
        corridor = edited(Corridor((5, 0), (), (0, 0)), 60)
        self.assertEqual([corridor.state(version=version)[2][0] for version in range(61)], [0] + [0, 1] * 30)

    def test_queries_change_nothing(self):
        corridor, states = five()
        for _ in range(2):
            corridor.state(version=2)
            corridor.certificate(version=1)
            corridor.most(1, version=0)
            list(corridor.walk())
            self.assertEqual([corridor.state(), len(corridor), corridor.edits()], [states[-1], 5, tuple(EDITS)])

    def test_large_corridors(self):
        for row, walkers, wants in large_cases(60):
            corridor = Corridor(row, walkers, wants)
            self.assertEqual(corridor.certificate(), find_certificate(row, walkers, wants))
            self.assertEqual([corridor.most(station) for station in range(len(row))],
                             [plain_most(row, walkers, station) for station in range(len(row))])


class Walks(Case):
    def test_against_the_rule(self):
        for row, walkers, wants in large_cases(150):
            corridor = Corridor(row, walkers, wants)
            found = list(corridor.walk())
            self.assertEqual(found, plain_walk(row, walkers))
            plan = tuple(stages for _, stages, _ in found)
            self.assertEqual(plan, rule_plan(row, walkers))
            self.assertEqual(found[-1][2], row_after(row, walkers, plan))
            for item in found:
                self.assertEqual([type(part) for part in item], [int, tuple, tuple])
                self.assertEqual([type(number) for number in item[2]], [int] * len(row))

    def test_one_after_another(self):
        self.assertTrue(isgeneratorfunction(Corridor.walk))
        walk = start().walk()
        self.assertIs(iter(walk), walk)
        self.assertEqual(next(walk), (0, (), (2, 0, 0)))
        self.assertEqual(next(walk), (1, (0,), (1, 1, 0)))
        self.assertEqual(next(walk), (2, (0, 1), (0, 1, 1)))
        self.assertEqual(next(walk, "end"), "end")
        self.assertEqual(next(walk, "end"), "end")

    def test_two_at_once(self):
        corridor = start()
        right = list(corridor.walk())
        one, other = corridor.walk(), corridor.walk()
        self.assertEqual([next(one), next(one)], right[:2])
        self.assertEqual(next(other), right[0])
        self.assertEqual(next(one), right[2])
        self.assertEqual(list(other), right[1:])
        self.assertEqual(next(one, None), None)
        self.assertEqual(list(zip(corridor.walk(), corridor.walk())), list(zip(right, right)))

    def test_two_corridors_at_once(self):
        one, other = start(), Corridor((50,) * 10, ((0, 9), (3, 4)), (0,) * 10)
        mixed = [item for pair in zip(one.walk(), other.walk()) for item in pair]
        self.assertEqual(mixed[::2], list(one.walk())[:2])
        self.assertEqual(mixed[1::2], list(other.walk()))

    def test_it_changes_nothing(self):
        corridor, states = five()
        for _ in corridor.walk():
            self.assertEqual([corridor.state(), len(corridor)], [states[-1], 5])
        self.assertEqual(list(corridor.walk()), plain_walk(*states[-1][:2]))

    def test_nobody(self):
        self.assertEqual(list(Corridor((2, 0), (), (0, 0)).walk()), [])

    def test_more_chairs_than_a_row_may_have(self):
        found = list(Corridor((50, 50), ((0, 1),) * 40, (0, 0)).walk())
        self.assertEqual(found[-1], (39, (0,), (10, 90)))


class EditTuples(Case):
    def test_those_that_stand(self):
        corridor = start()
        self.assertEqual(repr(corridor.edits()), "()")
        for many, (name, *values) in enumerate(EDITS):
            getattr(corridor, name)(*values)
            self.assertEqual(repr(corridor.edits()), repr(tuple(EDITS[:many + 1])))
        for many in range(4, -1, -1):
            corridor.undo()
            self.assertEqual(repr(corridor.edits()), repr(tuple(EDITS[:many])))

    def test_they_are_a_batch(self):
        corridor, _ = five()
        other = start()
        self.assertEqual(other.attempt(corridor.edits()), 5)
        self.assertEqual(other, corridor)
        self.assertEqual(other.edits(), corridor.edits())

    def test_one_by_one_and_in_a_batch(self):
        one, other = start(), start()
        for name, *values in EDITS:
            getattr(one, name)(*values)
        other.attempt(EDITS)
        self.assertEqual(repr(one.edits()), repr(other.edits()))


class Reads(Case):
    def test_texts(self):
        random = Random(41)
        for _ in range(100):
            row, walkers, wants = drawn_state(random)
            corridor = Corridor.read(corridor_text(row, walkers, wants))
            self.assertIs(type(corridor), Corridor)
            self.assertEqual(corridor.state(), (row, walkers, wants))
            self.assertEqual([len(corridor), corridor.edits()], [0, ()])
            self.assertEqual(corridor, Corridor(row, walkers, wants))

    def test_a_new_corridor_each_time(self):
        one, other = Corridor.read("1,0 for 0,1"), Corridor.read("1,0 for 0,1")
        one.put(0, 1)
        self.assertEqual([one.row, other.row, Corridor.read("1,0 for 0,1").row], [(2, 0), (1, 0), (1, 0)])
        self.assertEqual(other.read("1,0 for 0,1"), other)

    def test_wrong_texts_and_other_values(self):
        for value in ODD_VALUES + ["1,0 for 0,1 ", "1,0  for 0,1", "51,0 for 0,1", "1,0 0-2 for 0,1", "1,0 for 0,501",
                                   "1,0 for", "1,0", "1,0 for 0,1 x", "", b"1,0 for 0,1", ((1, 0), (), (0, 1)),
                                   "0,0" + " 0-1" * 41 + " for 0,0", Corridor((1, 0), (), (0, 1))]:
            with self.assertRaises(BadText) as right:
                parse_corridor(value)
            self.check_raises(BadText, {"index": right.exception.index}, lambda: Corridor.read(value))
        self.check_raises(BadText, {"index": None}, lambda: Corridor.read(None))
        self.check_raises(BadText, {"index": 2}, lambda: Corridor.read("2,0,0 0-1 1-3 for 0,0,1"))


class Texts(Case):
    def test_len_is_the_version(self):
        corridor = start()
        self.assertEqual(len(corridor), 0)
        for version in range(1, 61):
            self.assertEqual(corridor.want(0, 0), len(corridor))
            self.assertEqual(len(corridor), version)
        self.assertEqual([corridor.undo(), len(corridor)], [59, 59])
        self.assertEqual(len(edited(GuardedCorridor((2, 0), (), (0, 0), 0, 0), 7)), 7)

    def test_always_these_words(self):
        corridor = Corridor((1, 0), ((0, 1),), (0, 1))
        self.assertEqual(str(corridor), "2 stations, 1 chairs, 1 walkers, met, 0 edits")
        corridor.stay(0)
        self.assertEqual(str(corridor), "2 stations, 1 chairs, 0 walkers, not met, 1 edits")
        corridor.take(0, 1)
        self.assertEqual(str(corridor), "2 stations, 0 chairs, 0 walkers, not met, 2 edits")
        corridor = Corridor((50,) * 10, ((0, 9),) * 40, (0,) * 10)
        self.assertEqual(str(edited(corridor, 60)), "10 stations, 500 chairs, 40 walkers, met, 60 edits")
        self.assertEqual(f"{corridor}", str(corridor))

    def test_with_a_guard_the_same(self):
        one, other = GuardedCorridor((2, 0, 0), Q, (0, 0, 2), 2, 1), start()
        self.assertEqual(str(one), str(other))
        one.put(1, 1)
        self.assertEqual(str(one), "3 stations, 3 chairs, 3 walkers, met, 1 edits")

    def test_present_numbers(self):
        random = Random(43)
        for _ in range(100):
            row, walkers, wants = drawn_state(random)
            word = "met" if plain_met(row, walkers, wants) else "not met"
            for many in (0, 3):
                corridor = Corridor(row, walkers, wants)
                for _ in range(many):
                    corridor.want(0, wants[0])
                self.assertEqual(str(corridor), f"{len(row)} stations, {sum(row)} chairs, {len(walkers)} walkers, "
                                                f"{word}, {many} edits")


class Equal(Case):
    def check(self, one, other, equal):
        self.assertIs(one == other, equal)
        self.assertIs(other == one, equal)
        self.assertIs(one != other, not equal)
        self.assertIs(other != one, not equal)

    def test_rows_walkers_and_wants(self):
        states = list(product([(2, 0, 0), (2, 0, 1)], [(), P, Q, P[:2]], [(0, 0, 0), (0, 0, 2)]))
        states += [((2, 0), (), (0, 0)), ((2, 0, 0, 0), (), (0, 0, 0, 0))]
        for one, other in product(states, repeat=2):
            self.check(Corridor(*one), Corridor(*other), one == other)

    def test_other_edits(self):
        one, other = start(), start()
        one.put(0, 1)
        self.check(one, other, False)
        one.take(0, 1)
        self.check(one, other, True)
        self.assertNotEqual([len(one), one.edits()], [len(other), other.edits()])
        one.undo()
        self.check(one, other, False)
        other.put(0, 1)
        self.check(one, other, True)

    def test_guards(self):
        made = [(Corridor, ()), (GuardedCorridor, (2, 1)), (GuardedCorridor, (2, 0)), (GuardedCorridor, (1, 1)),
                (GuardedCorridor, (1, 0))]
        for (kind, guard), (other, second) in product(made, repeat=2):
            one = kind((2, 0, 0), Q, (0, 0, 0), *guard)
            self.check(one, other((2, 0, 0), Q, (0, 0, 0), *second), guard == second)
            self.check(one, other((2, 0, 0), Q, (0, 0, 1), *second), False)
            self.check(one, other((2, 0, 1), Q, (0, 0, 0), *second), False)
            self.check(one, other((2, 0, 0), P, (0, 0, 0), *second), False)
            third = other((2, 0, 0), Q, (0, 0, 0), *second)
            third.put(0, 1)
            self.check(one, third, False)
            third.take(0, 1)
            self.check(one, third, guard == second)

    def test_other_values(self):
        for corridor in (start(), GuardedCorridor((2, 0, 0), Q, (0, 0, 2), 2, 1)):
            for value in ODD_VALUES + [corridor.state(), str(corridor), Chairs((2, 0, 0)), Corridor, "2,0,0 for 0,0,2"]:
                self.check(corridor, value, False)
            self.check(corridor, corridor, True)
            self.assertIs([corridor] == [start()], type(corridor) is Corridor)


class BuiltAgain(Case):
    """Guarantee (f) of promise 2."""

    def test_after_edits_and_undos(self):
        random = Random(47)
        compared = 0
        for _ in range(120):
            row, walkers, wants = drawn_state(random)
            if random.random() < 0.4:
                corridor = GuardedCorridor(row, walkers, wants, random.randrange(len(row)), 0)
            else:
                corridor = Corridor(row, walkers, wants)
            for _ in range(random.choice([2, 10, 70])):
                self.change(random, corridor)
            self.compare(corridor)
            compared += len(corridor) > 0
            while len(corridor) and random.random() < 0.8:
                corridor.undo()
            self.compare(corridor)
        self.assertGreater(compared, 90)

    def change(self, random, corridor):
        station = random.randrange(len(corridor.row))
        number = random.randint(0, 4)
        told(random.choice([
            lambda: corridor.put(station, number), lambda: corridor.take(station, number),
            lambda: corridor.want(station, number), lambda: corridor.come(station, number),
            lambda: corridor.stay(number), lambda: corridor.undo(),
            lambda: corridor.attempt([("put", station, 1), ("take", station, number)]),
            lambda: corridor.attempt([("put", station, 1), ("stay", 0)], watch=lambda given: random.choice([0, 1])),
            lambda: corridor.attempt([("come", 0, 1)], watch=lambda given: given.put(0, 1)),
        ]))

    def compare(self, corridor):
        row, walkers, wants = corridor.state()
        if isinstance(corridor, GuardedCorridor):
            again = GuardedCorridor(row, walkers, wants, corridor.post, corridor.least)
        else:
            again = Corridor(row, walkers, wants)
        self.assertEqual(corridor, again)
        for one in (corridor, again):
            self.assertEqual([one.row, one.walkers, one.wants], [row, walkers, wants])
            self.assertIs(one.met, plain_met(row, walkers, wants))
        self.assertEqual(corridor.state(), again.state())
        self.assertEqual(corridor.certificate(), again.certificate())
        self.assertEqual([corridor.most(station) for station in range(len(row))],
                         [again.most(station) for station in range(len(row))])
        self.assertEqual(list(corridor.walk()), list(again.walk()))


if __name__ == "__main__":
    unittest.main()
