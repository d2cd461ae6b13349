"""Rows of chairs at stations, and the walkers who pass them."""

from chairwalks.bounds import MAX_CHAIRS, MAX_STATIONS, MAX_WALKERS
from chairwalks.checks import is_number
from chairwalks.errors import NoStation


def is_row(value):
    """Tell whether any value is a row."""
    return row_error(value) is None


def row_error(value):
    """Return None for a row; otherwise where its first error is, and which."""
    if not isinstance(value, tuple) or not 2 <= len(value) <= MAX_STATIONS:
        return (None, "row")
    for station, chairs in enumerate(value):
        if not is_number(chairs, 0, MAX_CHAIRS):
            return (station, "chairs")
    return None


def are_walkers(stations, value):
    """Tell whether any value is walkers for so many stations."""
    if not isinstance(value, tuple) or len(value) > MAX_WALKERS:
        return False
    return all([is_walker(stations, walker) for walker in value])


def is_walker(stations, value):
    """Tell whether any value is a pair of stations, the first one less than the last."""
    if not isinstance(value, tuple) or len(value) != 2:
        return False
    first, last = value
    return is_number(last, 0, stations - 1) and is_number(first, 0, last - 1)


def check_station(numbers, value):
    """Raise NoStation if any value is not a station of a row or of others who have a number for each."""
    if not is_number(value, 0, len(numbers) - 1):
        raise NoStation(value)


def with_number(numbers, station, number):
    """Return the numbers of the stations with another number at one of them."""
    return numbers[:station] + (number,) + numbers[station + 1:]
