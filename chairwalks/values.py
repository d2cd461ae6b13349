"""Values: the chairs of a corridor, which are added and compared, and walkers, who are called."""

from chairwalks.bounds import LIMIT, MAX_STATIONS
from chairwalks.checks import are_numbers
from chairwalks.errors import BadChairs, BadNumbers, BadWay, OtherLength, TooFew, TooMuch
from chairwalks.plans import row_after, rule_plan
from chairwalks.rows import check_station, is_walker


class Chairs:
    """How many chairs stand at each station. Such a value never changes."""

    def __init__(self, numbers):
        if not are_numbers(numbers, LIMIT) or not 2 <= len(numbers) <= MAX_STATIONS:
            raise BadNumbers(numbers)
        self._numbers = numbers

    @property
    def numbers(self):
        """The tuple of the numbers of chairs at the stations."""
        return self._numbers

    def __getitem__(self, at):
        check_station(self.numbers, at)
        return self.numbers[at]

    # Without this, Python would loop by indexes, and end with NoStation.
    def __iter__(self):
        raise TypeError("there is no loop over a Chairs")

    def __add__(self, other):
        if not isinstance(other, Chairs):
            return NotImplemented
        check_lengths(self, other)
        sums = tuple([one + more for one, more in zip(self.numbers, other.numbers)])
        check_limit(sums)
        return Chairs(sums)

    def __sub__(self, other):
        if not isinstance(other, Chairs):
            return NotImplemented
        check_lengths(self, other)
        for present, less in zip(self.numbers, other.numbers):
            if less > present:
                raise TooFew(present)
        return Chairs(tuple([present - less for present, less in zip(self.numbers, other.numbers)]))

    def __contains__(self, other):
        if not isinstance(other, Chairs) or len(other.numbers) != len(self.numbers):
            return False
        return all([less <= present for present, less in zip(self.numbers, other.numbers)])

    def __len__(self):
        return len(self.numbers)

    def __str__(self):
        return "|".join([f"{number:>4}" for number in self.numbers])

    def __eq__(self, other):
        return isinstance(other, Chairs) and self.numbers == other.numbers


def check_lengths(one, other):
    """Raise OtherLength if two Chairs do not have equally many stations."""
    if len(one.numbers) != len(other.numbers):
        raise OtherLength()


def check_limit(numbers):
    """Raise TooMuch with the first number that a Chairs cannot have at a station."""
    for total in numbers:
        if total > LIMIT:
            raise TooMuch(total)


class Walker:
    """Someone who walks from station first to station last, each time when they are called."""

    def __init__(self, first, last):
        if not is_walker(MAX_STATIONS, (first, last)):
            raise BadWay()
        self._way = (first, last)
        self._load = 0

    @property
    def load(self):
        """Over how many stages the walker has carried a chair, in all calls that have returned."""
        return self._load

    def __call__(self, value):
        """Return the Chairs after this walker has walked by the rule."""
        if not isinstance(value, Chairs) or len(value.numbers) <= self._way[1]:
            raise BadChairs(value)
        walkers = (self._way,)
        plan = rule_plan(value.numbers, walkers)
        after = row_after(value.numbers, walkers, plan)
        check_limit(after)
        chairs = Chairs(after)
        # Behind all that can raise an error: only calls that return count.
        self._load += len(plan[0])
        return chairs
