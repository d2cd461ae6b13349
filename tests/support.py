"""What several tests use: small cases, answers by trying everything, and odd values.

Nothing here calls the package, so that it can be compared with it.
"""

import unittest
from itertools import combinations, combinations_with_replacement, product
from random import Random

P = ((0, 1), (1, 2), (0, 2))
Q = ((1, 2), (0, 1), (0, 2))
ROW = (2, 0, 0)


def nested(depth, inner, make):
    value = inner
    for _ in range(depth):
        value = make(value)
    return value


DEEP_TUPLE = nested(20, (), lambda inner: (inner,))
DEEP_LIST = nested(20, [], lambda inner: [inner])
DEEP_DICT = nested(20, {}, lambda inner: {"a": inner})
HUGE = int("9" * 40)

# None of these is a row, walkers, wants, a plan, a bar or a certificate of a case
# with at least one walker and at least two stations.
ODD_VALUES = [
    None, True, False, 0, 1, -1, 2, HUGE, -HUGE, "", "plan", "bar", "2,0,0", "\n", [], {}, (),
    [2, 0, 0], {"a": 1}, {"0": (0, 1)}, ("plan",), ("bar",), ("plan", None), ("bar", None, None),
    (None, None), (None, None, None), ("", ""), ("a", "b", "c"), ((), (), ()), ([], [], []), ({}, {}, {}),
    (True, True), (False, False, False), (HUGE, HUGE), (-HUGE, 0), (HUGE, 0, -HUGE), ("plan", DEEP_TUPLE),
    ("bar", 2, DEEP_TUPLE), ("bar", DEEP_LIST, ()), DEEP_TUPLE, DEEP_LIST, DEEP_DICT,
    (DEEP_TUPLE, DEEP_TUPLE), (DEEP_LIST, DEEP_LIST, DEEP_LIST), (DEEP_DICT, DEEP_DICT), (None,) * 1000,
]


def ways(stations):
    return list(combinations(range(stations), 2))


def all_walkers(stations, most):
    """All walkers for so many stations, of at most so many."""
    return [walkers for many in range(most + 1) for walkers in product(ways(stations), repeat=many)]


def all_rows(stations, most):
    return list(product(range(most + 1), repeat=stations))


def small_cases():
    """Pairs of a row and walkers: all small ones, and some with more stations."""
    cases = [(row, walkers) for row in all_rows(2, 3) for walkers in all_walkers(2, 4)]
    cases += [(row, walkers) for row in all_rows(3, 2) for walkers in all_walkers(3, 3)]
    random = Random(7)
    for _ in range(120):
        row = tuple(random.choice((0, 0, 1, 2, 3)) for _ in range(4))
        cases.append((row, tuple(random.choice(ways(4)) for _ in range(random.randint(0, 3)))))
    return cases


def large_cases(many):
    """Triples of a row, walkers and wants of any allowed size, the same in each run."""
    random = Random(11)
    cases = []
    for at in range(many):
        stations = random.randint(2, 10)
        row = tuple(random.randint(0, random.choice((0, 2, 10, 50))) for _ in range(stations))
        walkers = tuple(random.choice(ways(stations)) for _ in range(random.choice((1, 5, 20, 40))))
        wants = tuple(random.randint(0, random.choice((0, 2, 8))) for _ in range(stations))
        if at % 2:
            wants = tuple(max(0, chairs + random.randint(-12, 3)) for chairs in row)
        cases.append((row, walkers, wants))
    return cases


def subsets(stages):
    return [chosen for many in range(len(stages) + 1) for chosen in combinations(stages, many)]


def simulate(row, plan):
    """The row after the plan, or None if a chair is missing on the way."""
    chairs = list(row)
    for stages in plan:
        for stage in stages:
            if chairs[stage] < 1:
                return None
            chairs[stage] -= 1
            chairs[stage + 1] += 1
    return tuple(chairs)


def all_choices(walkers):
    """All plans, possible or not."""
    return list(product(*[subsets(range(first, last)) for first, last in walkers]))


def possible_plans(row, walkers):
    return [plan for plan in all_choices(walkers) if simulate(row, plan) is not None]


def all_ends(row, walkers):
    """All rows in which possible plans end."""
    return {simulate(row, plan) for plan in possible_plans(row, walkers)}


def counts_of(stages_of_plan, stage):
    """How many chairs the first 0, 1, .. walkers of a plan carry over the stage."""
    return tuple(sum(1 for stages in stages_of_plan[:many] if stage in stages)
                 for many in range(len(stages_of_plan) + 1))


def all_moments(stages, walkers):
    """All moments for so many stages."""
    return list(combinations_with_replacement(range(len(walkers) + 1), stages))


def plain_bound(row, walkers, moments):
    """The bound, in the words of the document."""
    bound = 0
    for stage, moment in enumerate(moments):
        if moment > 0:
            bound += row[stage]
        if stage + 1 < len(moments):
            behind = moments[stage + 1]
        else:
            behind = len(walkers)
        for number, (first, last) in enumerate(walkers):
            if moment <= number <= behind - 1 and stage in range(first, last):
                bound += 1
    return bound


def plain_missing(row, wants, first, last):
    return sum(wants[station] - row[station] for station in range(first, last + 1))


def plain_certificate(row, walkers, wants, value):
    """Whether a value that has the form of a certificate is one, in the words of the document."""
    if value[0] == "plan":
        if value[1] not in all_choices(walkers):
            return False
        end = simulate(row, value[1])
        return end is not None and all(there >= want for there, want in zip(end, wants))
    _, station, moments = value
    return plain_missing(row, wants, len(moments), station) > plain_bound(row, walkers, moments)


def all_bars(row, walkers):
    """All pairs of a station and moments that have the form of a bar."""
    return [(station, moments) for station in range(len(row))
            for stages in range(station + 1) for moments in all_moments(stages, walkers)]


def twins(value):
    """All values that are equal to this one but have True or False in the place of a 1 or 0."""
    found = []
    if isinstance(value, int) and not isinstance(value, bool) and value in (0, 1):
        found.append(bool(value))
    if isinstance(value, tuple):
        for at, item in enumerate(value):
            found += [value[:at] + (twin,) + value[at + 1:] for twin in twins(item)]
    return found


def with_lists(value):
    """All values that have a list in the place of one tuple in this one."""
    found = []
    if isinstance(value, tuple):
        found.append(list(value))
        for at, item in enumerate(value):
            found += [value[:at] + (other,) + value[at + 1:] for other in with_lists(item)]
    return found


class Case(unittest.TestCase):
    def check_raises(self, kind, fields, call):
        """Check that a call raises an error of exactly this class, with exactly these fields."""
        with self.assertRaises(kind) as caught:
            call()
        self.assertIs(type(caught.exception), kind)
        found = vars(caught.exception)
        self.assertEqual(list(found), list(fields))
        for name, value in fields.items():
            self.assertIs(type(found[name]), type(value))
            self.assertEqual(found[name], value)

    def check_raises_with(self, kind, value, call):
        """Check that a call raises an error of exactly this class with this very value."""
        with self.assertRaises(kind) as caught:
            call()
        self.assertIs(type(caught.exception), kind)
        self.assertIs(caught.exception.value, value)


def told(call, *values, **named):
    """What a call returns, or a list of the name of its error and the values of the error's fields."""
    try:
        return call(*values, **named)
    except Exception as error:
        return [type(error).__name__] + list(vars(error).values())


def is_num(value, least, most):
    return type(value) is int and least <= value <= most


def plain_walk(row, walkers):
    """The number, the stages and the row behind each walker under the rule."""
    chairs = list(row)
    found = []
    for number, (first, last) in enumerate(walkers):
        stages = []
        for stage in range(first, last):
            if chairs[stage] > 0:
                chairs[stage] -= 1
                chairs[stage + 1] += 1
                stages.append(stage)
        found.append((number, tuple(stages), tuple(chairs)))
    return found


def plain_most(row, walkers, station):
    """The greatest number of chairs that can be at a station."""
    brought = [stages.count(station - 1) for _, stages, _ in plain_walk(row, walkers)]
    return row[station] + sum(brought)


def plain_met(row, walkers, wants):
    """Whether wants can be met: whether no stage has a need that is greater than what the rule carries."""
    stages = [stage for _, own, _ in plain_walk(row, walkers) for stage in own]
    for first in range(len(row)):
        most = stages.count(first - 1) if first > 0 else 0
        if any(plain_missing(row, wants, first, last) > most for last in range(first, len(row))):
            return False
    return True


def exchanged(numbers, at, number):
    return tuple(number if place == at else other for place, other in enumerate(numbers))


def plain_edit(state, edit):
    """The state after an edit and None, or None and the error as told, in the words of the document."""
    row, walkers, wants = state
    name, first, last = (edit + (None,))[:3]
    if name == "stay":
        if not is_num(first, 0, len(walkers) - 1):
            return None, ["NoWalker", first]
        return (row, tuple(way for number, way in enumerate(walkers) if number != first), wants), None
    if not is_num(first, 0, len(row) - 1):
        return None, ["NoStation", first]
    if name == "want":
        if not is_num(last, 0, 500):
            return None, ["BadWant", last]
        return (row, walkers, exchanged(wants, first, last)), None
    if name == "come":
        if not is_num(last, 0, len(row) - 1):
            return None, ["NoStation", last]
        if first >= last:
            return None, ["BadWay"]
        if len(walkers) >= 40:
            return None, ["TooManyWalkers"]
        return (row, walkers + ((first, last),), wants), None
    if not is_num(last, 1, 50):
        return None, ["BadCount", last]
    number = row[first] + (last if name == "put" else -last)
    if number > 50:
        return None, ["TooMuch", number]
    if number < 0:
        return None, ["TooFew", row[first]]
    return (exchanged(row, first, number), walkers, wants), None


def drawn_number(random, most):
    """Mostly a number that may do, and sometimes one outside or another value."""
    if random.random() < 0.12:
        return random.choice([-1, most + 1, True, False, None, "1", (), [1], 1.0, HUGE, -HUGE, {"a": 1}, 50, 51])
    return random.randint(0, most)


def drawn_edit(random, state):
    """An edit of a state, which may be refused."""
    row, walkers, _ = state
    name = random.choice(["put", "put", "take", "want", "come", "come", "stay"])
    if name == "stay":
        return (name, drawn_number(random, max(0, len(walkers) - 1)))
    station = drawn_number(random, len(row) - 1)
    if name == "come":
        return (name, station, drawn_number(random, len(row) - 1))
    if name == "want":
        return (name, station, drawn_number(random, random.choice([2, 9, 500])))
    return (name, station, drawn_number(random, random.choice([2, 5, 50])))


def drawn_state(random):
    """A row, walkers and wants."""
    stations = random.choice([2, 3, 4, 7, 10])
    row = tuple(random.choice([0, 0, 1, 2, 9, 50]) for _ in range(stations))
    walkers = tuple(random.choice(ways(stations)) for _ in range(random.choice([0, 1, 4, 12, 39, 40])))
    wants = tuple(random.choice([0, 0, 0, 1, 3]) for _ in range(stations))
    return row, walkers, wants
