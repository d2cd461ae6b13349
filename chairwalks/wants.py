"""Wants: how many chairs must be where in the end, and the reasons why they can be met or not."""

from chairwalks.bounds import MAX_WANT
from chairwalks.checks import are_numbers, is_number
from chairwalks.plans import carried, is_plan, limited_plan, row_after


def are_wants(stations, value):
    """Tell whether any value is wants for so many stations."""
    return are_numbers(value, MAX_WANT) and len(value) == stations


def needs_of(row, wants):
    """Return the outer need and the needs of the stages."""
    needs = []
    need = 0
    for station in range(len(row) - 1, -1, -1):
        # The greatest sum that begins here goes on only as long as what is behind adds to it.
        need = max(0, need + wants[station] - row[station])
        needs.append(need)
    return tuple(needs[::-1])


def missing(row, wants, first, last):
    """Return the wants less the chairs of the stations from first to last."""
    return sum(wants[first:last + 1]) - sum(row[first:last + 1])


def bound_of(row, walkers, moments):
    """Return the bound of a bar with these moments."""
    ends = moments[1:] + (len(walkers),)
    bound = 0
    for stage, moment in enumerate(moments):
        if moment > 0:
            bound += row[stage]
        bound += count_walking(walkers[moment:ends[stage]], stage)
    return bound


def count_walking(walkers, stage):
    """Return how many of the walkers walk the stage."""
    return len([first for first, last in walkers if first <= stage < last])


def find_certificate(row, walkers, wants):
    """Return a plan that meets the wants, or a bar for them, as a certificate."""
    counts = carried(row, walkers)
    for stage in range(-1, len(row) - 1):
        moments = tight_moments(row, walkers, counts, stage)
        station = find_short_station(row, wants, len(moments), bound_of(row, walkers, moments))
        if station is not None:
            return ("bar", station, moments)
    # To carry more than the needs could take away what is wanted where it stands.
    needs = needs_of(row, wants)
    return ("plan", limited_plan(row, walkers, needs[1:]))


def can_be_met(row, walkers, wants):
    """Tell whether some possible plan meets the wants."""
    # The rule carries the most over each stage that any plan does, and nothing comes from outside.
    most = (0,) + tuple([counts[-1] for counts in carried(row, walkers)])
    return all([need <= number for need, number in zip(needs_of(row, wants), most)])


def tight_moments(row, walkers, counts, stage):
    """Return moments up to this stage whose bound is what the rule carries over it.

    counts is the result of carried. The moment of each stage is the last one, not behind
    that of the next stage, with no chair at its station: until then all chairs that there
    were have gone on, and from then on everyone who walks the stage carries one.
    """
    moment = len(walkers)
    moments = []
    for station in range(stage, -1, -1):
        while moment > 0 and chairs_left(row, counts, station, moment) > 0:
            moment -= 1
        moments.append(moment)
    return tuple(moments[::-1])


def chairs_left(row, counts, station, moment):
    """Return how many chairs stand at a station, not the last one, after so many walkers."""
    brought = 0
    if station > 0:
        brought = counts[station - 1][moment]
    return row[station] + brought - counts[station][moment]


def find_short_station(row, wants, first, bound):
    """Return the first station up to which, from station first, more than the bound is missing, or None."""
    for station in range(first, len(row)):
        if missing(row, wants, first, station) > bound:
            return station
    return None


def certificate_holds(row, walkers, wants, value):
    """Tell whether any value is a certificate for the row, the walkers and the wants."""
    if not isinstance(value, tuple):
        return False
    if len(value) == 2 and value[0] == "plan":
        return plan_meets(row, walkers, wants, value[1])
    if len(value) == 3 and value[0] == "bar":
        return is_bar(row, walkers, wants, value[1], value[2])
    return False


def plan_meets(row, walkers, wants, value):
    """Tell whether any value is a possible plan that meets the wants."""
    if not is_plan(row, walkers, value):
        return False
    chairs = row_after(row, walkers, value)
    return all([present >= want for present, want in zip(chairs, wants)])


def is_bar(row, walkers, wants, station, moments):
    """Tell whether a station and moments, which may be any values, are a bar for the wants."""
    if not is_number(station, 0, len(row) - 1):
        return False
    if not are_moments(moments, station, len(walkers)):
        return False
    return missing(row, wants, len(moments), station) > bound_of(row, walkers, moments)


def are_moments(value, station, last):
    """Tell whether any value is moments from 0 to last of stages before the station."""
    if not isinstance(value, tuple) or len(value) > station:
        return False
    least = 0
    for moment in value:
        if not is_number(moment, least, last):
            return False
        least = moment
    return True
