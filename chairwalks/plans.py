"""Plans that say who carries a chair over which stages, and the rule to carry whenever one can."""

from chairwalks.checks import is_number


def is_plan(row, walkers, value):
    """Tell whether any value is a possible plan for the row and the walkers."""
    if not isinstance(value, tuple) or len(value) != len(walkers):
        return False
    for walker, stages in zip(walkers, value):
        if not are_stages_of(walker, stages):
            return False
    return chairs_after(row, value) is not None


def are_stages_of(walker, value):
    """Tell whether any value is an ascending tuple of stages of this walker's way."""
    if not isinstance(value, tuple):
        return False
    least, last = walker
    for stage in value:
        if not is_number(stage, least, last - 1):
            return False
        least = stage + 1
    return True


def chairs_after(row, plan):
    """Return the numbers of chairs after the plan, or None where a chair to carry is missing."""
    chairs = list(row)
    for stages in plan:
        for stage in stages:
            if chairs[stage] == 0:
                return None
            chairs[stage] -= 1
            chairs[stage + 1] += 1
    return tuple(chairs)


def row_after(row, walkers, plan):
    """Return the numbers of chairs at the stations after a possible plan of these walkers."""
    return chairs_after(row, plan)


def rule_plan(row, walkers):
    """Return the plan in which each walker carries a chair wherever one stands."""
    # Nobody walks a stage twice, so that this limit never stops anyone.
    limits = [len(walkers) for _ in range(len(row) - 1)]
    return limited_plan(row, walkers, limits)


def limited_plan(row, walkers, limits):
    """Return the plan of the rule with no more than limits[x] chairs carried over stage x."""
    chairs = list(row)
    left = list(limits)
    plan = []
    for first, last in walkers:
        stages = []
        for stage in range(first, last):
            if chairs[stage] > 0 and left[stage] > 0:
                chairs[stage] -= 1
                chairs[stage + 1] += 1
                left[stage] -= 1
                stages.append(stage)
        plan.append(tuple(stages))
    return tuple(plan)


def carried(row, walkers):
    """Return, for each stage, how many chairs the first 0, 1, .. walkers carry over it under the rule."""
    plan = rule_plan(row, walkers)
    return tuple([running_counts(plan, stage) for stage in range(len(row) - 1)])


def running_counts(plan, stage):
    """Return how many chairs the first 0, 1, .. and all walkers of the plan carry over the stage."""
    counts = [0]
    for stages in plan:
        counts.append(counts[-1] + stages.count(stage))
    return tuple(counts)
