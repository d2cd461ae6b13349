"""Promise 15: attempt, with and without a watch."""

import unittest
from random import Random

from chairwalks.corridors import Corridor
from chairwalks.errors import (BadEdit, BadEdits, BadNumbers, BadText, Busy, ChairError, NoStation, NothingToUndo,
                               Rejected, TooManyEdits)
from chairwalks.plans import row_after
from chairwalks.wants import certificate_holds
from tests.support import (DEEP_DICT, DEEP_LIST, DEEP_TUPLE, HUGE, ODD_VALUES, P, Q, Case, drawn_edit, drawn_state,
                           plain_edit, plain_most, plain_walk, told)
from tests.test_corridors import CorridorCase, edited, everything

# One edit of each name, and none of them raises an error, in this order, in the corridor of start().
FIVE = [("put", 1, 3), ("take", 1, 2), ("want", 0, 500), ("come", 0, 2), ("stay", 1)]
NO_EDITS = [
    None, True, 0, "put", "", (), ("put",), ("put", 0), ("put", 0, 1, 2), ("take",), ("take", 0), ("take", 0, 1, None),
    ("want",), ("want", 0), ("want", 0, 1, 2), ("come",), ("come", 0), ("come", 0, 1, 2), ("stay",), ("stay", 0, 1),
    ["put", 0, 1], ["stay", 0], ("undo",), ("attempt", []), ("state",), ("most", 0), ("met",), ("row", 0, 1),
    ("Put", 0, 1), ("put ", 0, 1), ("", 0, 1), (None, 0, 1), (0, 0, 1), (True, 0, 1), ((), 0, 1), ([], 0, 1),
    ({}, 0, 1), (["put"], 0, 1), (("put",), 0, 1), (b"put", 0, 1), ("puttake", 0, 1), {"put": (0, 1)}, [], {},
    (("put", 0, 1),), "put 0 1", (DEEP_LIST, 0), (DEEP_DICT, 0, 1), (DEEP_TUPLE, 0, 1), DEEP_LIST, 1.0,
]
WRONG = [("put", 3, 1), ("put", 0, 0), ("put", 0, 49), ("take", -1, 1), ("take", 0, 51), ("take", 2, 1),
         ("want", True, 1), ("want", 0, 501), ("come", 0, 3), ("come", None, 1), ("come", 1, 1), ("stay", 4),
         ("stay", []), ("put", [0], {}), ("want", 0, DEEP_LIST), ("come", HUGE, -HUGE), ("stay", "0")]


class Failure(Exception):
    """An error of the caller's own."""


class Truth:
    """A value that counts as true or false, or cannot say."""

    def __init__(self, value):
        self.value = value

    def __bool__(self):
        if self.value is None:
            raise Failure()
        return self.value


def start():
    return Corridor((2, 0, 0), P, (0, 0, 2))


def states_of(edits):
    """The states before and after each of some edits of start()."""
    states = [start().state()]
    for edit in edits:
        state, error = plain_edit(states[-1], edit)
        assert error is None, error
        states.append(state)
    return states


class Examples(Case):
    def test_attempt(self):
        corridor = start()
        self.check_raises(Rejected, {"index": 1}, lambda: corridor.attempt([('put', 1, 1), ('take', 2, 1)]))
        self.assertEqual(everything(corridor), everything(start()))


class Batches(CorridorCase):
    def test_lists_and_tuples(self):
        for kind in (list, tuple):
            for many in range(6):
                corridor = start()
                batch = kind(FIVE[:many])
                self.assertEqual(corridor.attempt(batch), many)
                self.assertEqual(batch, kind(FIVE[:many]))
                self.assertEqual(corridor.edits(), tuple(FIVE[:many]))
                states = states_of(FIVE[:many])
                self.assertEqual([corridor.state(version=version) for version in range(many + 1)], states)

    def test_the_same_as_one_after_another(self):
        one, other = start(), start()
        one.attempt(FIVE)
        for name, *values in FIVE:
            getattr(other, name)(*values)
        self.assertEqual(everything(one), everything(other))

    def test_each_edit_can_be_undone_by_itself(self):
        corridor = start()
        corridor.want(1, 1)
        self.assertEqual(corridor.attempt(FIVE), 5)
        for version in range(5, -1, -1):
            self.assertEqual(corridor.undo(), version)
            self.assertEqual(corridor.edits(), (("want", 1, 1), *FIVE)[:version])
        with self.assertRaises(NothingToUndo):
            corridor.undo()
        self.assertEqual(corridor, start())

    def test_an_empty_batch(self):
        def watch(_):
            self.fail("watch was called")
        corridor = edited(start(), 3)
        before = everything(corridor)
        for batch in ([], ()):
            self.assertEqual(repr(corridor.attempt(batch)), "0")
            self.assertEqual(repr(corridor.attempt(batch, watch=watch)), "0")
        self.assertEqual(everything(corridor), before)
        self.assertEqual(repr(edited(start(), 60).attempt([], watch=watch)), "0")

    def test_results_are_numbers(self):
        corridor = start()
        for batch, watch in ((FIVE, None), (FIVE[:1], None), (FIVE[:1], lambda given: True)):
            self.assertIs(type(corridor.attempt(batch, watch=watch)), int)

    def test_twenty_and_twenty_one_edits(self):
        for kind in (list, tuple):
            corridor = start()
            self.assertEqual(corridor.attempt(kind([("put", 0, 1)] * 19)), 19)
            self.assertEqual(corridor.attempt(kind([("put", 0, 1)] * 20)), 20)
            self.assertEqual(corridor.row, (41, 0, 0))
            for many in (21, 22, 1000):
                for item in (("put", 0, 1), ("put", 9, 9), None):
                    self.check_refused(corridor, BadEdits, {}, lambda: corridor.attempt(kind([item] * many)))

    def test_no_batches(self):
        corridor = start()
        for value in [None, True, False, 0, 1, "", "put", {}, {"put": 1}, 1.0, b"", HUGE, DEEP_DICT, range(0), iter([]),
                      corridor, start(), (edit for edit in FIVE), {edit: True for edit in FIVE}]:
            self.check_refused(corridor, BadEdits, {}, lambda: corridor.attempt(value))
            self.check_refused(corridor, BadEdits, {}, lambda: corridor.attempt(value, watch=self.fail))

    def test_any_value(self):
        corridor = start()
        for value in ODD_VALUES:
            before = everything(corridor)
            found = told(corridor.attempt, value)
            if isinstance(value, (list, tuple)) and len(value) <= 20:
                right = ["BadEdit", 0] if value else 0
            else:
                right = ["BadEdits"]
            self.assertEqual(repr(found), repr(right), value)
            self.assertEqual(everything(corridor), before)


class NoEdits(CorridorCase):
    def test_in_each_place(self):
        for item in NO_EDITS:
            for place in range(6):
                corridor = start()
                batch = FIVE[:place] + [item] + FIVE[place:]
                self.check_refused(corridor, BadEdit, {"index": place}, lambda: corridor.attempt(batch))
                self.check_refused(corridor, BadEdit, {"index": place},
                                   lambda: corridor.attempt(tuple(batch), watch=self.fail))

    def test_the_first_of_several(self):
        for first in range(5):
            for second in range(first, 5):
                batch = list(FIVE)
                batch[second] = None
                batch[first] = ("put", 0)
                corridor = start()
                self.check_refused(corridor, BadEdit, {"index": first}, lambda: corridor.attempt(batch))

    def test_before_any_error_of_an_edit(self):
        for wrong in WRONG:
            for place in range(6):
                batch = [wrong] + FIVE[:place] + [None] + FIVE[place:]
                corridor = start()
                self.check_refused(corridor, BadEdit, {"index": place + 1}, lambda: corridor.attempt(batch))
        full = edited(start(), 60)
        self.check_refused(full, BadEdit, {"index": 1}, lambda: full.attempt([("put", 0, 1), ("put", 0)]))

    def test_the_last_of_twenty(self):
        corridor = start()
        batch = [("put", 0, 1)] * 19 + [("put",)]
        self.check_refused(corridor, BadEdit, {"index": 19}, lambda: corridor.attempt(batch))


class RejectedEdits(CorridorCase):
    def test_in_each_place(self):
        for wrong in WRONG:
            for place in range(5):
                state = states_of(FIVE[:place])[-1]
                if plain_edit(state, wrong)[1] is None:
                    continue
                for batch in (FIVE[:place] + [wrong] + FIVE[place:], FIVE[:place] + [wrong, wrong]):
                    for many in (0, 7):
                        corridor = edited(start(), many)
                        self.check_refused(corridor, Rejected, {"index": place}, lambda: corridor.attempt(batch))
                        self.check_refused(corridor, Rejected, {"index": place},
                                           lambda: corridor.attempt(tuple(batch), watch=lambda given: False))

    def test_each_error_of_the_edits(self):
        found = set()
        for wrong in WRONG + [("put", 0, 50)]:
            _, error = plain_edit(start().state(), wrong)
            found.add(error[0])
            corridor = start()
            self.check_refused(corridor, Rejected, {"index": 0}, lambda: corridor.attempt([wrong]))
        corridor = Corridor((2, 0, 0), ((0, 1),) * 40, (0, 0, 0))
        self.check_refused(corridor, Rejected, {"index": 0}, lambda: corridor.attempt([("come", 0, 1)]))
        self.assertEqual(found, {"NoStation", "BadCount", "TooMuch", "TooFew", "BadWant", "BadWay", "NoWalker"})

    def test_too_many_edits(self):
        for many in (41, 50, 59, 60):
            corridor = edited(start(), many)
            batch = [("put", 0, 1)] * 20
            self.check_refused(corridor, Rejected, {"index": 60 - many}, lambda: corridor.attempt(batch))
            self.check_refused(corridor, Rejected, {"index": 60 - many},
                               lambda: corridor.attempt(batch, watch=lambda given: None))
        corridor = edited(start(), 40)
        self.assertEqual(corridor.attempt([("put", 0, 1)] * 20), 20)
        with self.assertRaises(TooManyEdits):
            corridor.put(0, 1)

    def test_an_edit_that_only_earlier_ones_allow_or_forbid(self):
        corridor = start()
        self.assertEqual(corridor.attempt([("put", 2, 1), ("take", 2, 1)]), 2)
        self.check_refused(corridor, Rejected, {"index": 0}, lambda: corridor.attempt([("take", 2, 1), ("put", 2, 1)]))
        self.check_refused(corridor, Rejected, {"index": 3}, lambda: corridor.attempt([("stay", 0)] * 4))
        self.check_refused(corridor, Rejected, {"index": 1}, lambda: corridor.attempt([("put", 2, 50)] * 2))

    def test_watch_is_not_called_behind_the_error(self):
        seen = []
        corridor = start()
        batch = FIVE[:2] + [("put", 9, 9)] + FIVE[2:]
        self.check_refused(corridor, Rejected, {"index": 2},
                           lambda: corridor.attempt(batch, watch=lambda given: seen.append(given.edits())))
        self.assertEqual(seen, [tuple(FIVE[:1]), tuple(FIVE[:2])])

    def test_edits_after_a_rejected_batch(self):
        corridor = start()
        for _ in range(3):
            with self.assertRaises(Rejected):
                corridor.attempt([("put", 0, 1), ("put", 0, 50)])
        self.assertEqual(corridor.put(0, 1), 1)
        self.assertEqual(corridor.attempt(FIVE), 5)
        self.assertEqual(corridor.edits(), (("put", 0, 1), *FIVE))


class Watches(CorridorCase):
    def test_called_with_the_corridor_after_each_edit(self):
        corridor = edited(start(), 2)
        before = corridor.edits()
        seen = []

        def watch(given):
            self.assertIs(given, corridor)
            seen.append(given.edits())
        self.assertEqual(corridor.attempt(FIVE, watch=watch), 5)
        self.assertEqual(seen, [before + tuple(FIVE[:many]) for many in range(1, 6)])

    def test_values_that_count_as_true(self):
        for value in (True, 1, -1, "0", "False", [0], (None,), {"a": 0}, 0.5, HUGE, start, Truth(True),
                      edited(start(), 1)):
            for stop in range(1, 6):
                corridor = start()
                calls = []

                def watch(given):
                    calls.append(len(given))
                    return value if len(calls) == stop else None
                self.assertEqual(corridor.attempt(FIVE, watch=watch), stop)
                self.assertEqual(corridor.edits(), tuple(FIVE[:stop]))
                self.assertEqual(calls, list(range(1, stop + 1)))
                self.assertEqual(corridor.state(), states_of(FIVE[:stop])[-1])
                self.assertEqual(corridor.undo(), stop - 1)

    def test_values_that_count_as_false(self):
        for value in (None, False, 0, "", [], (), {}, 0.0, Truth(False), start()):
            corridor = start()
            self.assertEqual(corridor.attempt(FIVE, watch=lambda given: value), 5)
            self.assertEqual(corridor.edits(), tuple(FIVE))

    def test_the_edits_behind_the_end_do_not_count(self):
        corridor = start()
        batch = [("put", 0, 1), ("put", 0, 50), ("stay", None)]
        self.assertEqual(corridor.attempt(batch, watch=lambda given: True), 1)
        corridor = edited(start(), 59)
        self.assertEqual(corridor.attempt(batch, watch=lambda given: True), 1)
        self.assertEqual(len(corridor), 60)

    def test_errors_of_watch(self):
        kinds = [Failure(), ValueError("x"), LookupError(), KeyError("put"), IndexError(), TypeError(), StopIteration(),
                 GeneratorExit(), KeyboardInterrupt(), SystemExit(3), RecursionError(), AttributeError("put"),
                 Rejected(9), Busy(), ChairError(), NoStation(1), BadEdit(0), BadText(None), BadNumbers([])]
        for error in kinds:
            for place in range(1, 6):
                for many in (0, 4):
                    corridor = edited(start(), many)
                    before = everything(corridor)

                    def watch(given):
                        if len(given) == many + place:
                            raise error
                    with self.assertRaises(type(error)) as caught:
                        corridor.attempt(FIVE, watch=watch)
                    self.assertIs(caught.exception, error)
                    self.assertEqual(everything(corridor), before)
                    # The corridor is not busy any longer.
                    self.assertEqual(corridor.put(0, 1), many + 1)
                    self.assertEqual(corridor.attempt(FIVE, watch=lambda given: None), 5)
                    self.assertEqual(corridor.undo(), many + 5)

    def test_an_answer_that_cannot_say(self):
        corridor = edited(start(), 3)
        self.check_refused(corridor, Failure, {}, lambda: corridor.attempt(FIVE, watch=lambda given: Truth(None)))
        self.assertEqual(corridor.put(0, 1), 4)

    def test_watches_that_edit_undo_or_attempt(self):
        calls = [("put", 0, 1), ("take", 0, 1), ("want", 0, 1), ("come", 0, 1), ("stay", 0), ("undo",),
                 ("attempt", []), ("attempt", [("put", 0, 1)]), ("attempt", None), ("put", None, None)]
        for name, *values in calls:
            for place in range(1, 6):
                corridor = start()

                def watch(given):
                    if len(given) == place:
                        getattr(given, name)(*values)
                self.check_refused(corridor, Busy, {}, lambda: corridor.attempt(FIVE, watch=watch))
                # A watch that catches the error goes on as if nothing had been.
                found = []
                other = start()
                self.assertEqual(other.attempt(FIVE, watch=lambda given: found.append(
                    told(getattr(given, name), *values))), 5)
                self.assertEqual(found, [["Busy"]] * 5)
                self.assertEqual(other.state(), states_of(FIVE)[-1])

    def test_watches_of_two_corridors(self):
        one, other = start(), start()
        inner_calls = []

        def inner(given):
            self.assertIs(given, other)
            # The watch of the first corridor runs, too.
            for corridor in (one, other):
                inner_calls.append([told(corridor.put, 0, 1), told(corridor.undo), told(corridor.attempt, [])])

        def outer(given):
            self.assertIs(given, one)
            self.assertEqual(told(one.put, 0, 1), ["Busy"])
            self.assertEqual([other.put(2, 1), other.undo()], [1, 0])
            self.assertEqual(other.attempt(FIVE[:2], watch=inner), 2)
            self.assertEqual(told(one.put, 0, 1), ["Busy"])
            self.assertEqual([other.undo(), other.undo()], [1, 0])
            self.assertEqual(told(other.undo), ["NothingToUndo"])
        self.assertEqual(one.attempt(FIVE[:3], watch=outer), 3)
        self.assertEqual(inner_calls, [[["Busy"]] * 3] * 12)
        self.assertEqual([len(one), len(other)], [3, 0])
        self.assertEqual([one.undo(), other.put(0, 1)], [2, 1])

    def test_an_error_in_the_watch_of_another_corridor(self):
        one, other = start(), start()

        def inner(given):
            one.put(0, 1)

        def outer(given):
            other.put(0, 1)
            other.attempt(FIVE, watch=inner)
        self.check_refused(one, Busy, {}, lambda: one.attempt(FIVE, watch=outer))
        self.assertEqual(other.edits(), (("put", 0, 1),))
        self.assertEqual([one.put(0, 1), other.put(0, 1)], [1, 2])

    def test_all_queries_while_watch_runs(self):
        states = states_of(FIVE)
        corridor = start()
        seen = []

        def watch(given):
            version = len(given)
            row, walkers, wants = states[version]
            self.assertEqual([given.row, given.walkers, given.wants], [row, walkers, wants])
            self.assertEqual(given.state(), states[version])
            for earlier in range(version + 1):
                self.assertEqual(given.state(version=earlier), states[earlier])
            self.assertEqual(told(given.state, version=version + 1), ["NoVersion", version + 1])
            self.assertEqual(list(given.walk()), plain_walk(row, walkers))
            self.assertEqual([given.most(station) for station in range(3)],
                             [plain_most(row, walkers, station) for station in range(3)])
            self.assertEqual(given.edits(), tuple(FIVE[:version]))
            certificate = given.certificate()
            self.assertTrue(certificate_holds(row, walkers, wants, certificate))
            self.assertIs(given.met, certificate[0] == "plan")
            self.assertIn(f"{len(walkers)} walkers", str(given))
            self.assertEqual(given, Corridor(row, walkers, wants))
            self.assertEqual(Corridor.read("1,0 for 0,1").put(0, 1), 1)
            seen.append(version)
        self.assertEqual(corridor.attempt(FIVE, watch=watch), 5)
        self.assertEqual(seen, [1, 2, 3, 4, 5])

    def test_walk_goes_on_in_watch(self):
        corridor = Corridor((2, 0, 0), Q, (0, 0, 0))
        rows = []

        def watch(given):
            plan = []
            for _, stages, chairs in given.walk():
                plan.append(stages)
            rows.append(chairs)
            self.assertEqual(row_after(given.row, given.walkers, tuple(plan)), chairs)
        corridor.attempt([("put", 1, 1), ("take", 0, 1)], watch=watch)
        self.assertEqual(rows, [(0, 1, 2), (0, 0, 2)])


class LaterChanges(CorridorCase):
    def test_the_list_is_changed_by_watch(self):
        for change in (lambda batch: batch.clear(), lambda batch: batch.append(("put", 9, 9)),
                       lambda batch: batch.insert(0, None), lambda batch: batch.reverse(),
                       lambda batch: batch.extend([None] * 30)):
            corridor = start()
            batch = list(FIVE)
            self.assertEqual(corridor.attempt(batch, watch=lambda given: change(batch)), 5)
            self.assertEqual(corridor.edits(), tuple(FIVE))

    def test_the_list_is_changed_afterwards(self):
        corridor = start()
        batch = list(FIVE)
        corridor.attempt(batch)
        before = everything(corridor)
        batch[0] = ("put", 0, 7)
        batch.clear()
        self.assertEqual(everything(corridor), before)

    def test_the_list_stays_as_it_is(self):
        for batch in (list(FIVE), FIVE[:2] + [("put", 9, 9)], FIVE[:2] + [None], [("put", 0, 1)] * 21, [[]], [["put"]]):
            before = repr(batch)
            for watch in (None, lambda given: True):
                told(start().attempt, batch, watch=watch)
                self.assertEqual(repr(batch), before)

    def test_a_list_in_an_edit(self):
        inner = [0]
        corridor = start()
        batch = [("put", 0, 1), ("put", inner, 1)]

        def watch(given):
            inner[0] = 1
        self.check_refused(corridor, Rejected, {"index": 1}, lambda: corridor.attempt(batch, watch=watch))


class Drawn(Case):
    def test_many_batches(self):
        random = Random(23)
        answers = {}
        for _ in range(250):
            states = [drawn_state(random)]
            edits = []
            corridor = Corridor(*states[0])
            for _ in range(8):
                batch = [drawn_edit(random, states[-1]) for _ in range(random.choice([0, 1, 3, 20]))]
                if random.random() < 0.1:
                    batch.append(("put", 0))
                if random.random() < 0.5:
                    batch = tuple(batch)
                end = random.choice([None, 1, 2, 19])
                right = self.plain_attempt(states, edits, batch, end)
                found = told(corridor.attempt, batch, watch=self.watch_until(end))
                self.assertEqual(repr(found), repr(right), (states[-1], batch))
                self.assertEqual(repr(corridor.edits()), repr(tuple(edits)))
                for version, state in enumerate(states):
                    self.assertEqual(corridor.state(version=version), state)
                name = right[0] if isinstance(right, list) else "done"
                answers[name] = answers.get(name, 0) + 1
        for name in ("done", "BadEdits", "BadEdit", "Rejected"):
            self.assertGreater(answers.get(name, 0), 10, name)

    def watch_until(self, end):
        calls = []

        def watch(_):
            calls.append(None)
            return len(calls) == end
        return watch

    def plain_attempt(self, states, edits, batch, end):
        """What attempt answers; states and edits become those afterwards."""
        if len(batch) > 20:
            return ["BadEdits"]
        for index, edit in enumerate(batch):
            if len(edit) != {"put": 3, "take": 3, "want": 3, "come": 3, "stay": 2}[edit[0]]:
                return ["BadEdit", index]
        now = list(states)
        for index, edit in enumerate(batch):
            state, error = plain_edit(now[-1], edit)
            if error or len(now) > 60:
                return ["Rejected", index]
            now.append(state)
            if index + 1 == end:
                break
        done = len(now) - len(states)
        states[:] = now
        edits += batch[:done]
        return done


if __name__ == "__main__":
    unittest.main()
