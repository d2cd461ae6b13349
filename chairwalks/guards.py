"""Guards, who see to it that enough chairs can be at their post."""

from chairwalks.bounds import LIMIT, MAX_STATIONS
from chairwalks.checks import is_number
from chairwalks.errors import BadLeast, BadPost


class Guard:
    """Someone with a post, which is a station, and the least number of chairs that must be possible there."""

    def __init__(self, post, least):
        if not is_number(post, 0, MAX_STATIONS - 1):
            raise BadPost(post)
        check_least(least)
        self._post = post
        self._least = least

    @property
    def post(self):
        """The station of the guard."""
        return self._post

    @property
    def least(self):
        """The least number of chairs."""
        return self._least

    def short(self, number):
        """Return how many are missing from this number to the least one."""
        check_least(number)
        return max(0, self.least - number)


def check_least(value):
    """Raise BadLeast if any value is not a number of chairs for a guard."""
    if not is_number(value, 0, LIMIT):
        raise BadLeast(value)
