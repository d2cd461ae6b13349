"""All errors that the package raises. Each has the values that it was created with as attributes."""


class ChairError(ValueError):
    """The base of all errors of the package but those for what is looked up and is not there."""


class TooLarge(ChairError):
    """There is more to try than the bound allows."""

    def __init__(self, bound):
        self.bound = bound


class BadNumbers(ChairError):
    """The value is not the numbers of a Chairs."""

    def __init__(self, value):
        self.value = value


class OtherLength(ChairError):
    """Two Chairs do not have equally many stations."""


class TooMuch(ChairError):
    """There would be so many chairs at a station, more than can be there."""

    def __init__(self, total):
        self.total = total


class TooFew(ChairError):
    """So many chairs stand at a station, fewer than are to be taken away."""

    def __init__(self, present):
        self.present = present


class BadWay(ChairError):
    """Two values are not the first and the last station of a way."""


class BadChairs(ChairError):
    """The value is not a Chairs with all stations of a walker's way."""

    def __init__(self, value):
        self.value = value


class BadRow(ChairError):
    """A value is not a row: error is what row_error tells of it."""

    def __init__(self, error):
        self.error = error


class BadWalkers(ChairError):
    """The value is not walkers for the stations of the row."""

    def __init__(self, value):
        self.value = value


class BadWants(ChairError):
    """The value is not wants for the stations of the row."""

    def __init__(self, value):
        self.value = value


class Busy(ChairError):
    """A corridor is not edited while a watch of it runs."""


class TooManyEdits(ChairError):
    """As many edits as a corridor can have stand."""


class BadCount(ChairError):
    """The value is not a number of chairs to put or to take."""

    def __init__(self, value):
        self.value = value


class BadWant(ChairError):
    """The value is not a want of a station."""

    def __init__(self, value):
        self.value = value


class TooManyWalkers(ChairError):
    """There are as many walkers as a corridor can have."""


class NothingToUndo(ChairError):
    """No edit stands."""


class BadEdits(ChairError):
    """A value is not a batch of edits, or it is too long."""


class BadEdit(ChairError):
    """The item with this index is not an edit."""

    def __init__(self, index):
        self.index = index


class Rejected(ChairError):
    """The edit with this index raised an error."""

    def __init__(self, index):
        self.index = index


class BadPost(ChairError):
    """The value is not the post of a guard."""

    def __init__(self, value):
        self.value = value


class BadLeast(ChairError):
    """The value is not a number of chairs for a guard."""

    def __init__(self, value):
        self.value = value


class TooLow(ChairError):
    """No more chairs than this number can be at the post of a guard."""

    def __init__(self, number):
        self.number = number


class BadText(ChairError):
    """The word with this index is wrong; None if a value is not a text at all."""

    def __init__(self, index):
        self.index = index


class NoStation(LookupError):
    """The value is not a station."""

    def __init__(self, value):
        self.value = value


class NoWalker(LookupError):
    """The value is not the number of a walker."""

    def __init__(self, value):
        self.value = value


class NoVersion(LookupError):
    """The value is not a version up to the present one."""

    def __init__(self, value):
        self.value = value
