"""Promise 16: guards, and corridors with a guard."""

import unittest
from itertools import product
from random import Random

from chairwalks import corridors, guards
from chairwalks.corridors import Corridor, GuardedCorridor
from chairwalks.errors import (BadLeast, BadPost, BadRow, BadWalkers, BadWants, Busy, NoStation, NothingToUndo,
                               Rejected, TooFew, TooLow, TooManyEdits)
from chairwalks.guards import Guard
from tests.support import (HUGE, P, Q, Case, drawn_edit, drawn_state, plain_edit, plain_met, plain_most, told)
from tests.test_corridors import NO_NUMBERS, CorridorCase, edited, everything

LIMIT = 10 ** 6
NO_POSTS = NO_NUMBERS + [-1, 10, 11, LIMIT, HUGE, -HUGE]
NO_LEASTS = NO_NUMBERS + [-1, -LIMIT, LIMIT + 1, HUGE, -HUGE]


class Examples(Case):
    def test_guard(self):
        guard = Guard(2, 5)
        self.assertEqual(repr([guard.post, guard.least, guard.short(3), guard.short(9)]), "[2, 5, 2, 0]")

    def test_guarded_corridor(self):
        corridor = GuardedCorridor((2, 0, 0), Q, (0, 0, 0), 2, 1)
        answers = [corridor.short(corridor.most(2)), corridor.put(1, 1), corridor.most(2), corridor.stay(2)]
        self.assertEqual(repr(answers), "[0, 1, 2, 2]")
        self.check_raises(TooLow, {"number": 0}, lambda: corridor.stay(0))


class Interface(Case):
    def test_each_name_is_defined_in_the_class_itself(self):
        self.assertEqual(Guard.__module__, guards.__name__)
        self.assertEqual(GuardedCorridor.__module__, corridors.__name__)
        for name in ("post", "least", "short", "__init__"):
            self.assertIn(name, vars(Guard), name)

    def test_subclass_of_both(self):
        self.assertTrue(issubclass(GuardedCorridor, Corridor))
        self.assertTrue(issubclass(GuardedCorridor, Guard))
        self.assertFalse(issubclass(Corridor, Guard))
        self.assertFalse(issubclass(Guard, Corridor))
        corridor = GuardedCorridor((2, 0), (), (0, 0), 0, 1)
        self.assertIsInstance(corridor, Corridor)
        self.assertIsInstance(corridor, Guard)
        self.assertNotIsInstance(Corridor((2, 0), (), (0, 0)), Guard)

    def test_attributes_are_only_read(self):
        for guard in (Guard(1, 1), GuardedCorridor((2, 1), (), (0, 0), 1, 1)):
            for name in ("post", "least"):
                for value in (0, 1):
                    with self.assertRaises(AttributeError):
                        setattr(guard, name, value)
                with self.assertRaises(AttributeError):
                    delattr(guard, name)
            self.assertEqual([guard.post, guard.least], [1, 1])
        corridor = GuardedCorridor((2, 1), (), (0, 0), 1, 1)
        with self.assertRaises(AttributeError):
            corridor.row = (2, 1)
        self.assertEqual(GuardedCorridor.MOST_EDITS, 60)


class Guards(Case):
    def test_posts_and_leasts(self):
        for post, least in product(range(10), (0, 1, 50, 500, LIMIT - 1, LIMIT)):
            guard = Guard(post, least)
            self.assertEqual(repr([guard.post, guard.least]), repr([post, least]))

    def test_wrong_posts(self):
        for value in NO_POSTS:
            for least in (0, LIMIT, -1, None):
                self.check_raises_with(BadPost, value, lambda: Guard(value, least))

    def test_wrong_leasts(self):
        for value in NO_LEASTS:
            for post in (0, 9):
                self.check_raises_with(BadLeast, value, lambda: Guard(post, value))

    def test_true_and_false_right_after_1_and_0(self):
        for _ in range(2):
            for number in (0, 1):
                guard = Guard(number, number)
                self.assertEqual(guard.short(number), 0)
                self.check_raises(BadPost, {"value": bool(number)}, lambda: Guard(bool(number), number))
                self.check_raises(BadLeast, {"value": bool(number)}, lambda: Guard(number, bool(number)))
                self.check_raises(BadLeast, {"value": bool(number)}, lambda: guard.short(bool(number)))

    def test_short(self):
        for least in (0, 1, 2, 500, LIMIT):
            guard = Guard(3, least)
            for number in (0, 1, 2, 3, 499, 500, 501, LIMIT - 1, LIMIT):
                right = least - number if number < least else 0
                self.assertEqual(repr(guard.short(number)), repr(right))

    def test_short_of_what_is_no_number(self):
        for guard in (Guard(2, 5), Guard(0, 0), GuardedCorridor((2, 0), (), (0, 0), 0, 2)):
            for value in NO_LEASTS:
                self.check_raises_with(BadLeast, value, lambda: guard.short(value))
            self.assertIn(guard.least, (5, 0, 2))


class Making(Case):
    def test_as_a_corridor(self):
        for post, least in ((0, 0), (2, 0), (99, -1), (None, None), ("0", 10 ** 7), (2, 3)):
            self.check_raises(BadRow, {"error": (None, "row")},
                              lambda: GuardedCorridor((2,), None, None, post, least))
            self.check_raises(BadRow, {"error": (1, "chairs")},
                              lambda: GuardedCorridor((2, 51), (), (0, 0), post, least))
            self.check_raises(BadWalkers, {"value": ((0, 3),)},
                              lambda: GuardedCorridor((2, 0, 0), ((0, 3),), None, post, least))
            self.check_raises(BadWants, {"value": (0, 0, 501)},
                              lambda: GuardedCorridor((2, 0, 0), P, (0, 0, 501), post, least))

    def test_as_a_guard(self):
        for post in NO_POSTS:
            for least in (0, LIMIT, LIMIT + 1, None):
                self.check_raises_with(BadPost, post, lambda: GuardedCorridor((2, 0, 0), P, (0, 0, 0), post, least))
        for least in NO_LEASTS:
            for post in (0, 2, 3, 9):
                self.check_raises_with(BadLeast, least, lambda: GuardedCorridor((2, 0, 0), P, (0, 0, 0), post, least))

    def test_posts_that_are_no_stations(self):
        for stations in range(2, 11):
            for post in range(10):
                row = (1,) * stations
                for least in (0, LIMIT):
                    if post >= stations:
                        self.check_raises(NoStation, {"value": post},
                                          lambda: GuardedCorridor(row, (), row, post, least))
                self.assertEqual(told(lambda: GuardedCorridor(row, (), row, post, 1).post),
                                 post if post < stations else ["NoStation", post])

    def test_just_reached_and_one_more(self):
        random = Random(29)
        for _ in range(80):
            row, walkers, wants = drawn_state(random)
            for post in range(len(row)):
                most = plain_most(row, walkers, post)
                for least in {0, most // 2, most}:
                    corridor = GuardedCorridor(row, walkers, wants, post, least)
                    self.assertEqual([corridor.post, corridor.least], [post, least])
                    self.assertEqual(corridor.state(), (row, walkers, wants))
                    self.assertEqual([len(corridor), corridor.edits()], [0, ()])
                    self.assertIs(corridor.met, plain_met(row, walkers, wants))
                for least in (most + 1, most + 2, LIMIT):
                    self.check_raises(TooLow, {"number": most},
                                      lambda: GuardedCorridor(row, walkers, wants, post, least))

    def test_wants_do_not_count(self):
        corridor = GuardedCorridor((2, 0, 0), P, (500, 500, 500), 2, 2)
        self.assertIs(corridor.met, False)
        self.assertEqual(corridor.want(0, 0), 1)


class Edits(CorridorCase):
    def test_each_edit_with_just_enough_and_too_few(self):
        # At station 2 can be 3 chairs: one that stands there, and those of walkers 0 and 2.
        edits = [(("take", 2, 1), 2), (("take", 0, 1), 2), (("take", 0, 2), 1), (("stay", 0), 2), (("stay", 2), 2),
                 (("stay", 1), 3), (("put", 1, 1), 3), (("put", 2, 1), 4), (("come", 0, 2), 3), (("want", 2, 9), 3),
                 (("put", 0, 48), 3), (("come", 1, 2), 3)]
        walkers = ((0, 2), (0, 1), (0, 2))
        for (name, *values), number in edits:
            for least in range(4):
                corridor = GuardedCorridor((2, 0, 1), walkers, (0, 0, 0), 2, least)
                self.assertEqual(corridor.most(2), 3)
                if number < least:
                    self.check_refused(corridor, TooLow, {"number": number}, lambda: getattr(corridor, name)(*values))
                else:
                    self.assertEqual(getattr(corridor, name)(*values), 1)
                    self.assertEqual(corridor.most(2), number)
                    self.assertEqual(corridor.short(corridor.most(2)), 0)

    def test_the_number_of_the_post_and_of_no_other_station(self):
        corridor = GuardedCorridor((5, 5, 5), (), (0, 0, 0), 1, 5)
        self.assertEqual([corridor.take(0, 5), corridor.take(2, 5)], [1, 2])
        self.check_refused(corridor, TooLow, {"number": 4}, lambda: corridor.take(1, 1))
        self.check_refused(corridor, TooLow, {"number": 0}, lambda: corridor.take(1, 5))

    def test_after_all_other_errors(self):
        def build():
            return GuardedCorridor((5, 0), (), (0, 0), 0, 5)
        corridor = build()
        self.check_refused(corridor, TooLow, {"number": 4}, lambda: corridor.take(0, 1))
        self.check_refused(corridor, TooFew, {"present": 5}, lambda: corridor.take(0, 6))
        self.check_refused(corridor, NoStation, {"value": 2}, lambda: corridor.take(2, 1))
        self.assertEqual(told(corridor.take, 0, 51), ["BadCount", 51])
        self.assertEqual(told(corridor.stay, 0), ["NoWalker", 0])
        full = edited(build(), 60)
        self.check_refused(full, TooManyEdits, {}, lambda: full.take(0, 1))
        self.assertEqual(full.attempt([]), 0)

        def watch(given):
            self.check_raises(Busy, {}, lambda: given.take(0, 1))
        other = build()
        self.assertEqual(other.attempt([("put", 0, 1)], watch=watch), 1)
        self.assertEqual(other.take(0, 1), 2)

    def test_in_a_batch(self):
        fine = [("put", 1, 1), ("want", 0, 2), ("come", 0, 1)]
        for place in range(4):
            batch = fine[:place] + [("take", 0, 1)] + fine[place:]
            corridor = GuardedCorridor((5, 0), (), (0, 0), 0, 5)
            corridor.put(1, 1)
            self.check_refused(corridor, Rejected, {"index": place}, lambda: corridor.attempt(batch))
            self.check_refused(corridor, Rejected, {"index": place},
                               lambda: corridor.attempt(tuple(batch), watch=lambda given: False))
            # Each edit of a batch counts, not only the last one.
            self.check_refused(corridor, Rejected, {"index": place}, lambda: corridor.attempt(
                batch[:place + 1] + [("put", 0, 1)]))
            self.assertEqual(corridor.attempt([("put", 0, 1)] + batch), 5)

    def test_undo_is_never_refused(self):
        corridor = GuardedCorridor((5, 0), (), (0, 0), 0, 5)
        corridor.attempt([("put", 0, 2), ("take", 0, 1), ("put", 0, 4), ("take", 0, 5)])
        for version in (3, 2, 1, 0):
            self.assertEqual(corridor.undo(), version)
        self.assertEqual(corridor.row, (5, 0))
        self.check_refused(corridor, NothingToUndo, {}, corridor.undo)
        walkers = ((0, 1),) * 3
        corridor = GuardedCorridor((3, 0), walkers, (0, 0), 1, 3)
        corridor.come(0, 1)
        corridor.stay(0)
        corridor.put(1, 1)
        corridor.stay(0)
        self.assertEqual([corridor.undo(), corridor.undo(), corridor.undo(), corridor.undo()], [3, 2, 1, 0])
        self.assertEqual(corridor.walkers, walkers)

    def test_short_while_watch_runs(self):
        corridor = GuardedCorridor((5, 0), (), (0, 0), 0, 5)
        seen = []

        def watch(given):
            self.assertIs(given, corridor)
            seen.append([given.post, given.least, given.short(0), given.short(given.most(0)), told(given.short, -1)])
        self.assertEqual(corridor.attempt([("put", 0, 1), ("take", 0, 1)], watch=watch), 2)
        self.assertEqual(seen, [[0, 5, 5, 0, ["BadLeast", -1]]] * 2)

    def test_a_watch_that_raises(self):
        corridor = GuardedCorridor((5, 0), (), (0, 0), 0, 5)

        def watch(given):
            raise TooLow(len(given))
        self.check_refused(corridor, TooLow, {"number": 1}, lambda: corridor.attempt([("put", 0, 1)], watch=watch))
        self.assertEqual(corridor.put(0, 1), 1)

    def test_queries_of_versions(self):
        corridor = GuardedCorridor((5, 0), ((0, 1),), (0, 0), 1, 1)
        corridor.put(1, 3)
        self.assertEqual([corridor.most(1), corridor.most(1, version=0)], [4, 1])
        self.assertEqual(corridor.state(version=0), ((5, 0), ((0, 1),), (0, 0)))
        self.assertEqual(list(corridor.walk()), [(0, (0,), (4, 4))])


class Drawn(Case):
    def test_many_edits_and_undos(self):
        random = Random(31)
        refused = 0
        for _ in range(250):
            states = [drawn_state(random)]
            row, walkers, wants = states[0]
            post = random.randrange(len(row))
            most = plain_most(row, walkers, post)
            least = random.choice([0, most, most, max(0, most - 2)])
            corridor = GuardedCorridor(row, walkers, wants, post, least)
            for _ in range(30):
                if random.random() < 0.1 and len(states) > 1:
                    states.pop()
                    self.assertEqual(corridor.undo(), len(states) - 1)
                    continue
                edit = drawn_edit(random, states[-1])
                state, error = plain_edit(states[-1], edit)
                if error is None and plain_most(state[0], state[1], post) < least:
                    error = ["TooLow", plain_most(state[0], state[1], post)]
                    refused += 1
                before = everything(corridor)
                found = told(getattr(corridor, edit[0]), *edit[1:])
                if error is None:
                    states.append(state)
                    self.assertEqual(found, len(states) - 1)
                else:
                    self.assertEqual(repr(found), repr(error))
                    self.assertEqual(everything(corridor), before)
                self.assertEqual(corridor.state(), states[-1])
                self.assertGreaterEqual(corridor.most(post), least)
        self.assertGreater(refused, 40)


if __name__ == "__main__":
    unittest.main()
