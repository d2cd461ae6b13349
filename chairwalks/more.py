"""Further questions about a row and its walkers: how many are enough, how many can be where, and what for."""

from chairwalks.checks import are_numbers
from chairwalks.plans import carried
from chairwalks.rows import with_number
from chairwalks.wants import can_be_met, needs_of


def enough_walkers(row, walkers, wants):
    """Return with how many of the first walkers, at least, the wants can be met, or None."""
    needs = needs_of(row, wants)
    if needs[0] > 0:
        return None
    counts = carried(row, walkers)
    for many in range(len(walkers) + 1):
        if all([numbers[many] >= need for numbers, need in zip(counts, needs[1:])]):
            return many
    return None


def most_at(row, walkers, station):
    """Return the greatest number of chairs that can be at this station in the end."""
    if station == 0:
        return row[0]
    # All of them stay here, and the rule brings the most that any plan does.
    return row[station] + carried(row, walkers)[station - 1][-1]


def fewest_chairs(row, walkers, wants, station):
    """Return how many more chairs at this station, at least, make it possible to meet the wants, or None."""
    # A further chair that is not one of the wanted ones in the end can be left out from the beginning.
    most = sum(wants)
    if not is_enough_more(row, walkers, wants, station, most):
        return None
    least = 0
    while least < most:
        middle = (least + most) // 2
        if is_enough_more(row, walkers, wants, station, middle):
            most = middle
        else:
            least = middle + 1
    return least


def is_enough_more(row, walkers, wants, station, more):
    """Tell whether the wants can be met with so many more chairs at this station."""
    return can_be_met(with_number(row, station, row[station] + more), walkers, wants)


def idle_walkers(row, walkers, wants):
    """Return the walkers each of whom alone can be left out so that the wants can still be met."""
    return tuple([number for number in range(len(walkers))
                  if can_be_met(row, walkers[:number] + walkers[number + 1:], wants)])


def is_reachable(row, walkers, value):
    """Tell whether any value is a row in which some possible plan ends."""
    total = sum(row)
    if not are_numbers(value, total) or len(value) != len(row) or sum(value) != total:
        return False
    # Where the total is the same, nobody has more than is wanted.
    return can_be_met(row, walkers, value)
