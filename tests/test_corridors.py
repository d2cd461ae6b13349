"""Promises 13 and 14: corridors, their attributes, and edits one after another."""

import unittest
from itertools import product
from random import Random

from chairwalks import corridors
from chairwalks.bounds import MAX_EDITS
from chairwalks.corridors import Corridor
from chairwalks.errors import (BadCount, BadRow, BadWalkers, BadWant, BadWants, BadWay, Busy, NoStation,
                               NothingToUndo, NoWalker, TooFew, TooManyEdits, TooManyWalkers, TooMuch)
from chairwalks.rows import row_error
from tests.support import (DEEP_DICT, DEEP_LIST, DEEP_TUPLE, HUGE, ODD_VALUES, P, Q, Case, drawn_edit,
                           drawn_state, plain_edit, plain_met, told, twins, with_lists)

# None of these is a number.
NO_NUMBERS = [None, True, False, "", "0", "1", (), (1,), [], [0], {}, {"a": 1}, 1.0, b"\x01", DEEP_TUPLE,
              DEEP_LIST, DEEP_DICT, Corridor((1, 1), (), (0, 0))]
FORTY = ((0, 1),) * 40


def everything(corridor):
    """All that can be read of a corridor."""
    return [corridor.row, corridor.walkers, corridor.wants, corridor.met, len(corridor), str(corridor),
            corridor.edits(), corridor.certificate(), list(corridor.walk()),
            [corridor.state(version=version) for version in range(len(corridor) + 1)],
            [corridor.most(station) for station in range(len(corridor.row))]]


def edited(corridor, many):
    """The corridor after so many more edits, which change no more than a want, there and back."""
    for _ in range(many):
        corridor.want(0, len(corridor) % 2)
    return corridor


class CorridorCase(Case):
    def check_refused(self, corridor, kind, fields, call):
        """Check that a call raises this error, and that nothing has changed."""
        before = everything(corridor)
        self.check_raises(kind, fields, call)
        self.assertEqual(everything(corridor), before)

    def check_refused_with(self, corridor, kind, value, call):
        """The same for an error with this very value."""
        before = everything(corridor)
        self.check_raises_with(kind, value, call)
        self.assertEqual(everything(corridor), before)


class Examples(Case):
    def test_corridor(self):
        corridor = Corridor((2, 0, 0), P, (0, 0, 2))
        answers = [corridor.row, corridor.walkers == P, corridor.wants, corridor.met, len(corridor)]
        self.assertEqual(repr(answers), "[(2, 0, 0), True, (0, 0, 2), True, 0]")

    def test_attributes(self):
        self.assertEqual(repr([Corridor.MOST_EDITS, Corridor((1, 0), (), (0, 1)).met]), "[60, False]")

    def test_edits(self):
        corridor = Corridor((2, 0, 0), Q, (0, 0, 2))
        answers = [corridor.put(1, 1), corridor.met, corridor.want(2, 3), corridor.met, corridor.come(1, 2),
                   corridor.met]
        self.assertEqual(repr(answers), "[1, True, 2, False, 3, True]")

    def test_undo(self):
        corridor = Corridor((2, 0, 0), P, (0, 0, 2))
        answers = [corridor.stay(1), corridor.met, corridor.undo(), corridor.met]
        self.assertEqual(repr(answers), "[1, False, 0, True]")


class Interface(Case):
    def test_each_name_is_defined_in_the_class_itself(self):
        self.assertEqual(Corridor.__module__, corridors.__name__)
        for name in ("row walkers wants met MOST_EDITS put take want come stay undo attempt state certificate most "
                     "walk edits read __init__ __len__ __str__ __eq__").split():
            self.assertIn(name, vars(Corridor), name)

    def test_most_edits(self):
        self.assertEqual(Corridor.MOST_EDITS, MAX_EDITS)
        self.assertIs(type(Corridor.MOST_EDITS), int)
        self.assertEqual(Corridor((1, 0), (), (0, 1)).MOST_EDITS, MAX_EDITS)

    def test_attributes_are_only_read(self):
        corridor = Corridor((2, 0, 0), P, (0, 0, 2))
        before = everything(corridor)
        for name, value in (("row", (3, 0, 0)), ("walkers", Q), ("wants", (0, 0, 0)), ("met", False)):
            for given in (value, getattr(corridor, name)):
                with self.assertRaises(AttributeError):
                    setattr(corridor, name, given)
            with self.assertRaises(AttributeError):
                delattr(corridor, name)
            self.assertEqual(everything(corridor), before)

    def test_arguments_by_name(self):
        corridor = Corridor((2, 0, 0), P, (0, 0, 2))
        self.assertEqual(corridor.attempt([], watch=None), 0)
        self.assertEqual(corridor.most(2, version=0), 2)
        with self.assertRaises(TypeError):
            corridor.attempt([], None)
        with self.assertRaises(TypeError):
            corridor.state(0)
        with self.assertRaises(TypeError):
            corridor.certificate(0)
        with self.assertRaises(TypeError):
            corridor.most(2, 0)


class Making(Case):
    def test_rows(self):
        wrong = [(2,), (0,) * 11, (1, 51), (-1, 0), (True, 0), (0, False), [1, 0], (HUGE, 0), (1, 0, "0")]
        for row in ODD_VALUES + wrong:
            # What stands behind the row does not count.
            for walkers, wants in (((), (0, 0)), (None, None), ([], [])):
                error = row_error(row)
                self.assertIsNotNone(error)
                self.check_raises(BadRow, {"error": error}, lambda: Corridor(row, walkers, wants))
        self.check_raises(BadRow, {"error": (None, "row")}, lambda: Corridor((2,), (), (0,)))
        self.check_raises(BadRow, {"error": (1, "chairs")}, lambda: Corridor((2, 51, True), (), (0, 0, 0)))

    def test_walkers(self):
        wrong = [value for value in ODD_VALUES if value != ()]
        wrong += [((0, 3),), ((1, 1),), ((0, 1), (2, 1)), FORTY + ((0, 1),), [(0, 1)], ((False, 1),), ((0, True),)]
        for walkers in wrong:
            for wants in ((0, 0, 0), (0, 0), None, (0, 0, 501)):
                self.check_raises_with(BadWalkers, walkers, lambda: Corridor((2, 0, 0), walkers, wants))
        self.check_raises_with(BadWalkers, P, lambda: Corridor((2, 0), P, (0, 0)))

    def test_wants(self):
        wrong = ODD_VALUES + [(0, 0), (0, 0, 0, 0), (0, 0, 501), (-1, 0, 0), (True, 0, 0), (0, False, 0), [0, 0, 0]]
        for wants in wrong:
            for walkers in ((), P):
                self.check_raises_with(BadWants, wants, lambda: Corridor((2, 0, 0), walkers, wants))

    def test_true_false_and_lists_right_after_numbers(self):
        right = ((1, 0, 1), ((0, 1), (1, 2)), (0, 1, 0))
        for at, kind in ((0, BadRow), (1, BadWalkers), (2, BadWants)):
            for other in twins(right[at]) + with_lists(right[at]):
                given = list(right)
                given[at] = other
                for _ in range(2):
                    self.assertEqual(Corridor(*right).state(), right)
                    with self.assertRaises(kind):
                        Corridor(*given)

    def test_at_the_limits(self):
        corridor = Corridor((50,) * 10, ((0, 9),) * 40, (500,) * 10)
        self.assertEqual(corridor.state(), ((50,) * 10, ((0, 9),) * 40, (500,) * 10))
        self.assertIs(corridor.met, False)
        corridor = Corridor((0, 0), (), (0, 0))
        self.assertEqual(corridor.state(), ((0, 0), (), (0, 0)))
        self.assertIs(corridor.met, True)

    def test_met(self):
        random = Random(3)
        words = []
        for _ in range(300):
            row, walkers, wants = drawn_state(random)
            corridor = Corridor(row, walkers, wants)
            self.assertIs(corridor.met, plain_met(row, walkers, wants))
            words.append(corridor.met)
        self.assertGreater(words.count(True), 50)
        self.assertGreater(words.count(False), 50)

    def test_two_corridors_are_apart(self):
        one, other = Corridor((2, 0, 0), P, (0, 0, 2)), Corridor((2, 0, 0), P, (0, 0, 2))
        before = everything(other)
        one.put(0, 1)
        one.stay(0)
        self.assertEqual(everything(other), before)
        self.assertEqual(other.come(0, 1), 1)
        self.assertEqual(len(one), 2)


class Edits(CorridorCase):
    def setUp(self):
        self.corridor = Corridor((2, 0, 50), P, (0, 0, 2))

    def test_put(self):
        for station, count in product(range(3), (1, 2, 49, 50)):
            row = (2, 0, 50)
            corridor = Corridor(row, P, (0, 0, 2))
            total = row[station] + count
            if total > 50:
                self.check_refused(corridor, TooMuch, {"total": total}, lambda: corridor.put(station, count))
            else:
                self.assertEqual(corridor.put(station, count), 1)
                self.assertEqual(corridor.row, row[:station] + (total,) + row[station + 1:])
                self.assertEqual([corridor.walkers, corridor.wants], [P, (0, 0, 2)])

    def test_take(self):
        for station, count in product(range(3), (1, 2, 3, 49, 50)):
            row = (2, 0, 50)
            corridor = Corridor(row, P, (0, 0, 2))
            if row[station] < count:
                self.check_refused(corridor, TooFew, {"present": row[station]}, lambda: corridor.take(station, count))
            else:
                self.assertEqual(corridor.take(station, count), 1)
                self.assertEqual(corridor.row, row[:station] + (row[station] - count,) + row[station + 1:])
                self.assertEqual([corridor.walkers, corridor.wants], [P, (0, 0, 2)])

    def test_want(self):
        for station, number in product(range(3), (0, 1, 2, 51, 499, 500)):
            corridor = Corridor((2, 0, 50), P, (0, 0, 2))
            self.assertEqual(corridor.want(station, number), 1)
            self.assertEqual(corridor.wants, (0, 0, 2)[:station] + (number,) + (0, 0, 2)[station + 1:])
            self.assertEqual([corridor.row, corridor.walkers], [(2, 0, 50), P])

    def test_come(self):
        for stations in (2, 3, 10):
            for first, last in product(range(stations), repeat=2):
                corridor = Corridor((1,) * stations, ((0, 1),), (0,) * stations)
                if first < last:
                    self.assertEqual(corridor.come(first, last), 1)
                    self.assertEqual(corridor.walkers, ((0, 1), (first, last)))
                    self.assertEqual([corridor.row, corridor.wants], [(1,) * stations, (0,) * stations])
                else:
                    self.check_refused(corridor, BadWay, {}, lambda: corridor.come(first, last))

    def test_stay(self):
        for many in (1, 2, 40):
            walkers = tuple((at % 3, 3 + at % 7) for at in range(many))
            for index in range(many):
                corridor = Corridor((1,) * 10, walkers, (0,) * 10)
                self.assertEqual(corridor.stay(index), 1)
                self.assertEqual(corridor.walkers, walkers[:index] + walkers[index + 1:])
                self.assertEqual([corridor.row, corridor.wants], [(1,) * 10, (0,) * 10])

    def test_results_are_numbers(self):
        for call in (lambda: self.corridor.put(0, 1), lambda: self.corridor.take(0, 1), lambda: self.corridor.undo(),
                     lambda: self.corridor.want(0, 1), lambda: self.corridor.come(0, 1),
                     lambda: self.corridor.stay(0), lambda: len(self.corridor)):
            self.assertIs(type(call()), int)

    def test_an_edit_that_changes_nothing_counts(self):
        self.assertEqual(self.corridor.want(2, 2), 1)
        self.assertEqual(self.corridor.edits(), (("want", 2, 2),))
        self.assertEqual(self.corridor.undo(), 0)

    def test_stations(self):
        calls = [lambda value: self.corridor.put(value, 1), lambda value: self.corridor.take(value, 1),
                 lambda value: self.corridor.want(value, 1), lambda value: self.corridor.come(value, 2),
                 lambda value: self.corridor.come(0, value)]
        for call in calls:
            for value in NO_NUMBERS + [-1, -3, 3, 4, 10, HUGE, -HUGE]:
                self.check_refused_with(self.corridor, NoStation, value, lambda: call(value))

    def test_counts(self):
        for call in (self.corridor.put, self.corridor.take):
            for value in NO_NUMBERS + [0, -1, 51, HUGE, -HUGE]:
                self.check_refused_with(self.corridor, BadCount, value, lambda: call(0, value))

    def test_wanted_numbers(self):
        for value in NO_NUMBERS + [-1, 501, HUGE, -HUGE]:
            self.check_refused_with(self.corridor, BadWant, value, lambda: self.corridor.want(0, value))

    def test_indexes(self):
        for value in NO_NUMBERS + [-1, -3, 3, 4, 40, HUGE, -HUGE]:
            self.check_refused_with(self.corridor, NoWalker, value, lambda: self.corridor.stay(value))
        corridor = Corridor((2, 0), (), (0, 0))
        for value in (0, 1, -1, False, None):
            self.check_refused_with(corridor, NoWalker, value, lambda: corridor.stay(value))

    def test_true_and_false_right_after_1_and_0(self):
        corridor = Corridor((9, 9, 9), P, (0, 0, 0))
        for name, values in (("put", (0, 1)), ("take", (1, 1)), ("want", (1, 0)), ("come", (0, 1)), ("stay", (1,))):
            for other in twins(values):
                for _ in range(2):
                    self.assertEqual(getattr(corridor, name)(*values), 1)
                    corridor.undo()
                    with self.assertRaises((NoStation, BadCount, BadWant, NoWalker)):
                        getattr(corridor, name)(*other)

    def test_forty_walkers(self):
        corridor = Corridor((2, 0, 0), FORTY[:39], (0, 0, 0))
        self.assertEqual(corridor.come(0, 2), 1)
        self.check_refused(corridor, TooManyWalkers, {}, lambda: corridor.come(0, 2))
        self.assertEqual(corridor.stay(0), 2)
        self.assertEqual(corridor.come(1, 2), 3)
        self.assertEqual(corridor.walkers, FORTY[:38] + ((0, 2), (1, 2)))

    def test_fifty_chairs(self):
        corridor = Corridor((0, 49), (), (0, 0))
        self.assertEqual([corridor.put(0, 50), corridor.put(1, 1)], [1, 2])
        for station in range(2):
            self.check_refused(corridor, TooMuch, {"total": 51}, lambda: corridor.put(station, 1))
            self.check_refused(corridor, TooMuch, {"total": 100}, lambda: corridor.put(station, 50))
        self.assertEqual([corridor.take(0, 50), corridor.take(1, 49)], [3, 4])
        self.check_refused(corridor, TooFew, {"present": 0}, lambda: corridor.take(0, 1))
        self.check_refused(corridor, TooFew, {"present": 1}, lambda: corridor.take(1, 2))


class Order(CorridorCase):
    """Of several errors that apply the one listed first is raised, whatever others do."""

    def check_all(self, names, build):
        """Check each set of the named faults.

        build gets a dict of the faults; it returns the corridor, the edit and the errors in their order.
        """
        for chosen in product((False, True), repeat=len(names)):
            faults = dict(zip(names, chosen))
            corridor, edit, errors = build(faults)
            right = [error for fault, error in zip(names, errors) if faults[fault]]
            before = everything(corridor)
            found = told(getattr(corridor, edit[0]), *edit[1:])
            if right:
                self.assertEqual(repr(found), repr(right[0]), (faults, edit))
                self.assertEqual(everything(corridor), before)
            else:
                self.assertEqual(found, before[4] + 1, (faults, edit))

    def corridor(self, faults, row=(2, 50, 0), walkers=P):
        return edited(Corridor(row, walkers, (0, 0, 0)), 60 if faults["edits"] else 59)

    def test_put(self):
        def build(faults):
            station = 3 if faults["station"] else 1
            count = 51 if faults["count"] else 1
            row = (0, 50 if faults["chairs"] else 49, 0)
            if faults["count"] and not faults["chairs"]:
                count = -1
            errors = [["TooManyEdits"], ["NoStation", 3], ["BadCount", count], ["TooMuch", 51]]
            return self.corridor(faults, row), ("put", station, count), errors
        self.check_all(["edits", "station", "count", "chairs"], build)

    def test_take(self):
        def build(faults):
            station = "1" if faults["station"] else 1
            count = 51 if faults["count"] else 50
            row = (0, 49 if faults["chairs"] else 50, 0)
            errors = [["TooManyEdits"], ["NoStation", "1"], ["BadCount", 51], ["TooFew", 49]]
            return self.corridor(faults, row), ("take", station, count), errors
        self.check_all(["edits", "station", "count", "chairs"], build)

    def test_want(self):
        def build(faults):
            station = True if faults["station"] else 1
            number = 501 if faults["number"] else 500
            errors = [["TooManyEdits"], ["NoStation", True], ["BadWant", 501]]
            return self.corridor(faults), ("want", station, number), errors
        self.check_all(["edits", "station", "number"], build)

    def test_come(self):
        def build(faults):
            first, last = 0, 2
            if faults["way"]:
                first, last = 2, 1
            if faults["first"]:
                first = 9
            if faults["last"]:
                last = -1 if faults["way"] else 8
            if faults["first"] and not faults["last"] and not faults["way"]:
                first = -1
            walkers = FORTY if faults["walkers"] else FORTY[:39]
            errors = [["TooManyEdits"], ["NoStation", first], ["NoStation", last], ["BadWay"], ["TooManyWalkers"]]
            return self.corridor(faults, walkers=walkers), ("come", first, last), errors
        self.check_all(["edits", "first", "last", "way", "walkers"], build)

    def test_stay(self):
        def build(faults):
            index = 3 if faults["index"] else 2
            return self.corridor(faults), ("stay", index), [["TooManyEdits"], ["NoWalker", 3]]
        self.check_all(["edits", "index"], build)

    def test_busy_before_all_others(self):
        calls = [("put", 9, 99), ("put", 0, 50), ("put", 0, 1), ("take", 9, 99), ("take", 2, 1), ("take", 0, 1),
                 ("want", 9, 999), ("want", 0, 999), ("want", 0, 1), ("come", 9, 9), ("come", 1, 1), ("come", 0, 1),
                 ("stay", 99), ("stay", 0), ("undo",), ("attempt", None), ("attempt", [None]), ("attempt", []),
                 ("attempt", [("put", 0, 1)])]
        for many in (0, 58, 59):
            corridor = edited(Corridor((2, 0, 0), FORTY, (0, 0, 0)), many)
            seen = []

            def watch(given):
                for name, *values in calls:
                    before = everything(given)
                    seen.append(told(getattr(given, name), *values))
                    self.assertEqual(everything(given), before)
            self.assertEqual(corridor.attempt([("want", 2, 7)], watch=watch), 1)
            self.assertEqual(seen, [["Busy"]] * len(calls))
            self.assertEqual(len(corridor), many + 1)
            self.assertEqual(corridor.wants[2], 7)
            # Behind the watch the corridor is free again.
            self.assertEqual(corridor.undo(), many)


class SixtyEdits(CorridorCase):
    def test_sixty_and_no_more(self):
        corridor = Corridor((0, 0), (), (0, 0))
        for version in range(1, 61):
            self.assertEqual(corridor.want(0, version), version)
        for call in (lambda: corridor.want(0, 0), lambda: corridor.put(0, 1), lambda: corridor.take(0, 1),
                     lambda: corridor.come(0, 1), lambda: corridor.stay(0), lambda: corridor.put(None, None)):
            self.check_refused(corridor, TooManyEdits, {}, call)
        self.assertEqual(corridor.undo(), 59)
        self.assertEqual(corridor.put(0, 1), 60)
        self.check_refused(corridor, TooManyEdits, {}, lambda: corridor.put(0, 1))

    def test_edits_that_were_undone_do_not_count(self):
        corridor = Corridor((0, 0), (), (0, 0))
        for _ in range(200):
            self.assertEqual(corridor.put(0, 1), 1)
            self.assertEqual(corridor.undo(), 0)


class Undo(CorridorCase):
    def test_down_to_the_beginning_and_beyond(self):
        corridor = Corridor((2, 0, 0), P, (0, 0, 2))
        seen = [corridor.state()]
        for call in (lambda: corridor.put(1, 3), lambda: corridor.take(0, 1), lambda: corridor.want(1, 4),
                     lambda: corridor.come(0, 1), lambda: corridor.stay(0), lambda: corridor.stay(0)):
            call()
            seen.append(corridor.state())
        for version in range(5, -1, -1):
            self.assertEqual(corridor.undo(), version)
            self.assertEqual(corridor.state(), seen[version])
            self.assertEqual(len(corridor.edits()), version)
        for _ in range(2):
            self.check_refused(corridor, NothingToUndo, {}, corridor.undo)
        self.assertEqual(corridor.put(1, 3), 1)
        self.assertEqual(corridor.state(), seen[1])

    def test_busy_before_nothing_to_undo(self):
        corridor = Corridor((2, 0, 0), P, (0, 0, 2))
        self.check_raises(NothingToUndo, {}, corridor.undo)

        def watch(given):
            self.check_raises(Busy, {}, given.undo)
        self.assertEqual(corridor.attempt([("put", 0, 1)], watch=watch), 1)
        self.assertEqual(corridor.undo(), 0)
        self.check_raises(NothingToUndo, {}, corridor.undo)


class Drawn(Case):
    def test_many_edits_and_undos(self):
        random = Random(17)
        errors = {}
        for _ in range(150):
            states = [drawn_state(random)]
            edits = []
            corridor = Corridor(*states[0])
            for _ in range(random.choice([5, 30, 150])):
                if random.random() < 0.1:
                    right = ["NothingToUndo"]
                    if edits:
                        edits.pop()
                        states.pop()
                        right = len(edits)
                    self.assertEqual(told(corridor.undo), right)
                else:
                    self.check_edit(random, corridor, states, edits, errors)
                self.assertEqual(repr(corridor.state()), repr(states[-1]))
                self.assertEqual([corridor.row, corridor.walkers, corridor.wants], list(states[-1]))
                self.assertEqual([len(corridor), corridor.edits()], [len(edits), tuple(edits)])
            self.assertIs(corridor.met, plain_met(*states[-1]))
        for name in ("NoStation", "BadCount", "TooMuch", "TooFew", "BadWant", "BadWay", "TooManyWalkers", "NoWalker",
                     "TooManyEdits"):
            self.assertGreater(errors.get(name, 0), 5, name)

    def check_edit(self, random, corridor, states, edits, errors):
        edit = drawn_edit(random, states[-1])
        state, error = plain_edit(states[-1], edit)
        if len(edits) == 60:
            error = ["TooManyEdits"]
        found = told(getattr(corridor, edit[0]), *edit[1:])
        if error:
            errors[error[0]] = errors.get(error[0], 0) + 1
            self.assertEqual(repr(found), repr(error))
        else:
            states.append(state)
            edits.append(edit)
            self.assertEqual(found, len(edits))


if __name__ == "__main__":
    unittest.main()
