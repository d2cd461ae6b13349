"""All possible plans: how many there are, and which."""

from chairwalks.bounds import SMALL_STAGES
from chairwalks.errors import TooLarge
from chairwalks.plans import chairs_after, row_after


def count_plans(row, walkers):
    """Return the number of possible plans of walkers who walk few stages in all."""
    stages = [stage for first, last in walkers for stage in range(first, last)]
    if len(stages) > SMALL_STAGES:
        raise TooLarge(SMALL_STAGES)
    return count_choices(row, stages)


def count_choices(row, stages):
    """Return in how many ways chairs can be carried over some of these stages, one after another."""
    left = [stages.count(station) for station in range(len(row))]
    # How many ways lead to each row. Of two rows that differ only in chairs that nobody is left
    # to carry, the same is possible from then on: they count as one, so that there are only few.
    ways = {carriable(row, left): 1}
    for stage in stages:
        left[stage] -= 1
        ways = ways_after(ways, stage, left)
    return sum(ways.values())


def ways_after(ways, stage, left):
    """Return how many ways lead to each row after someone has walked a stage, with a chair or without."""
    after = {}
    for chairs, many in ways.items():
        for choice in (chairs, chairs_after(chairs, ((stage,),))):
            if choice is not None:
                rest = carriable(choice, left)
                after[rest] = after.get(rest, 0) + many
    return after


def carriable(chairs, left):
    """Return the numbers of chairs without those that nobody is left to carry from their station."""
    return tuple([min(number, most) for number, most in zip(chairs, left)])


def each_plan(row, walkers):
    """Yield the possible plans in ascending order, each one computed when it is asked for."""
    plan = ((),) * len(walkers)
    while plan is not None:
        yield plan
        plan = next_plan(row, walkers, plan)


def next_plan(row, walkers, plan):
    """Return the least possible plan greater than this one, or None."""
    # The later the first walker who does something else, the less the plan grows.
    for number in range(len(walkers) - 1, -1, -1):
        before = plan[:number]
        chairs = row_after(row, walkers[:number], before)
        stages = next_stages(chairs, walkers[number], plan[number])
        if stages is not None:
            return before + (stages,) + ((),) * (len(walkers) - number - 1)
    return None


def next_stages(chairs, walker, stages):
    """Return the least stages greater than these over which the walker can carry a chair, or None."""
    first, last = walker
    # starts[kept] is the first stage that may come behind so many of these stages. The more
    # of them are kept, the less the tuple grows.
    starts = [stage + 1 for stage in stages]
    starts.append(max([first] + starts))
    for kept in range(len(stages), -1, -1):
        for stage in range(starts[kept], last):
            found = stages[:kept] + (stage,)
            if chairs_after(chairs, (found,)) is not None:
                return found
    return None
