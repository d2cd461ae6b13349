"""What several tests use: small cases, answers by trying everything, and odd values.

Nothing here calls the package, so that it can be compared with it.
"""

from itertools import combinations, combinations_with_replacement, product
from random import Random

P = ((0, 1), (1, 2), (0, 2))
Q = ((1, 2), (0, 1), (0, 2))
ROW = (2, 0, 0)


def nested(depth, inner, make):
    value = inner
    for _ in range(depth):
        value = make(value)
    return value


DEEP_TUPLE = nested(20, (), lambda inner: (inner,))
DEEP_LIST = nested(20, [], lambda inner: [inner])
DEEP_DICT = nested(20, {}, lambda inner: {"a": inner})
HUGE = int("9" * 40)

# None of these is a row, walkers, wants, a plan, a bar or a certificate of a case
# with at least one walker and at least two stations.
ODD_VALUES = [
    None, True, False, 0, 1, -1, 2, HUGE, -HUGE, "", "plan", "bar", "2,0,0", "\n", [], {}, (),
    [2, 0, 0], {"a": 1}, {"0": (0, 1)}, ("plan",), ("bar",), ("plan", None), ("bar", None, None),
    (None, None), (None, None, None), ("", ""), ("a", "b", "c"), ((), (), ()), ([], [], []), ({}, {}, {}),
    (True, True), (False, False, False), (HUGE, HUGE), (-HUGE, 0), (HUGE, 0, -HUGE), ("plan", DEEP_TUPLE),
    ("bar", 2, DEEP_TUPLE), ("bar", DEEP_LIST, ()), DEEP_TUPLE, DEEP_LIST, DEEP_DICT,
    (DEEP_TUPLE, DEEP_TUPLE), (DEEP_LIST, DEEP_LIST, DEEP_LIST), (DEEP_DICT, DEEP_DICT), (None,) * 1000,
]


def ways(stations):
    return list(combinations(range(stations), 2))


def all_walkers(stations, most):
    """All walkers for so many stations, of at most so many."""
    return [walkers for many in range(most + 1) for walkers in product(ways(stations), repeat=many)]


def all_rows(stations, most):
    return list(product(range(most + 1), repeat=stations))


def small_cases():
    """Pairs of a row and walkers: all small ones, and some with more stations."""
    cases = [(row, walkers) for row in all_rows(2, 3) for walkers in all_walkers(2, 4)]
    cases += [(row, walkers) for row in all_rows(3, 2) for walkers in all_walkers(3, 3)]
    random = Random(7)
    for _ in range(120):
        row = tuple(random.choice((0, 0, 1, 2, 3)) for _ in range(4))
        cases.append((row, tuple(random.choice(ways(4)) for _ in range(random.randint(0, 3)))))
    return cases


def large_cases(many):
    """Triples of a row, walkers and wants of any allowed size, the same in each run."""
    random = Random(11)
    cases = []
    for at in range(many):
        stations = random.randint(2, 10)
        row = tuple(random.randint(0, random.choice((0, 2, 10, 50))) for _ in range(stations))
        walkers = tuple(random.choice(ways(stations)) for _ in range(random.choice((1, 5, 20, 40))))
        wants = tuple(random.randint(0, random.choice((0, 2, 8))) for _ in range(stations))
        if at % 2:
            wants = tuple(max(0, chairs + random.randint(-12, 3)) for chairs in row)
        cases.append((row, walkers, wants))
    return cases


def subsets(stages):
    return [chosen for many in range(len(stages) + 1) for chosen in combinations(stages, many)]


def simulate(row, plan):
    """The row after the plan, or None if a chair is missing on the way."""
    chairs = list(row)
    for stages in plan:
        for stage in stages:
            if chairs[stage] < 1:
                return None
            chairs[stage] -= 1
            chairs[stage + 1] += 1
    return tuple(chairs)


def all_choices(walkers):
    """All plans, possible or not."""
    return list(product(*[subsets(range(first, last)) for first, last in walkers]))


def possible_plans(row, walkers):
    return [plan for plan in all_choices(walkers) if simulate(row, plan) is not None]


def all_ends(row, walkers):
    """All rows in which possible plans end."""
    return {simulate(row, plan) for plan in possible_plans(row, walkers)}


def counts_of(stages_of_plan, stage):
    """How many chairs the first 0, 1, .. walkers of a plan carry over the stage."""
    return tuple(sum(1 for stages in stages_of_plan[:many] if stage in stages)
                 for many in range(len(stages_of_plan) + 1))


def all_moments(stages, walkers):
    """All moments for so many stages."""
    return list(combinations_with_replacement(range(len(walkers) + 1), stages))


def plain_bound(row, walkers, moments):
    """The bound, in the words of the document."""
    bound = 0
    for stage, moment in enumerate(moments):
        if moment > 0:
            bound += row[stage]
        if stage + 1 < len(moments):
            behind = moments[stage + 1]
        else:
            behind = len(walkers)
        for number, (first, last) in enumerate(walkers):
            if moment <= number <= behind - 1 and stage in range(first, last):
                bound += 1
    return bound


def plain_missing(row, wants, first, last):
    return sum(wants[station] - row[station] for station in range(first, last + 1))


def plain_certificate(row, walkers, wants, value):
    """Whether a value that has the form of a certificate is one, in the words of the document."""
    if value[0] == "plan":
        if value[1] not in all_choices(walkers):
            return False
        end = simulate(row, value[1])
        return end is not None and all(there >= want for there, want in zip(end, wants))
    _, station, moments = value
    return plain_missing(row, wants, len(moments), station) > plain_bound(row, walkers, moments)


def all_bars(row, walkers):
    """All pairs of a station and moments that have the form of a bar."""
    return [(station, moments) for station in range(len(row))
            for stages in range(station + 1) for moments in all_moments(stages, walkers)]


def twins(value):
    """All values that are equal to this one but have True or False in the place of a 1 or 0."""
    found = []
    if isinstance(value, int) and not isinstance(value, bool) and value in (0, 1):
        found.append(bool(value))
    if isinstance(value, tuple):
        for at, item in enumerate(value):
            found += [value[:at] + (twin,) + value[at + 1:] for twin in twins(item)]
    return found


def with_lists(value):
    """All values that have a list in the place of one tuple in this one."""
    found = []
    if isinstance(value, tuple):
        found.append(list(value))
        for at, item in enumerate(value):
            found += [value[:at] + (other,) + value[at + 1:] for other in with_lists(item)]
    return found
