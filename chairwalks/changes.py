"""The edits of a corridor: which values are edits, and what each edit makes of a state.

A state is a tuple (row, walkers, wants). An edit is a tuple of a name and the values behind it.
"""

from chairwalks.bounds import BATCH, MAX_CHAIRS, MAX_WALKERS, MAX_WANT
from chairwalks.checks import is_number
from chairwalks.errors import BadCount, BadEdit, BadEdits, BadWant, BadWay
from chairwalks.errors import NoWalker, TooFew, TooManyWalkers, TooMuch
from chairwalks.rows import check_station, with_number


def after_put(state, station, count):
    """Return the state with more chairs at a station."""
    row, walkers, wants = state
    check_station(row, station)
    check_count(count)
    total = row[station] + count
    if total > MAX_CHAIRS:
        raise TooMuch(total)
    return (with_number(row, station, total), walkers, wants)


def after_take(state, station, count):
    """Return the state with fewer chairs at a station."""
    row, walkers, wants = state
    check_station(row, station)
    check_count(count)
    present = row[station]
    if present < count:
        raise TooFew(present)
    return (with_number(row, station, present - count), walkers, wants)


def check_count(value):
    """Raise BadCount if any value is not a number of chairs to put or to take."""
    if not is_number(value, 1, MAX_CHAIRS):
        raise BadCount(value)


def after_want(state, station, number):
    """Return the state with another want of a station."""
    row, walkers, wants = state
    check_station(row, station)
    if not is_number(number, 0, MAX_WANT):
        raise BadWant(number)
    return (row, walkers, with_number(wants, station, number))


def after_come(state, first, last):
    """Return the state with one more walker behind all others."""
    row, walkers, wants = state
    check_station(row, first)
    check_station(row, last)
    if first >= last:
        raise BadWay()
    if len(walkers) >= MAX_WALKERS:
        raise TooManyWalkers()
    return (row, walkers + ((first, last),), wants)


def after_stay(state, index):
    """Return the state without one of the walkers."""
    row, walkers, wants = state
    if not is_number(index, 0, len(walkers) - 1):
        raise NoWalker(index)
    return (row, walkers[:index] + walkers[index + 1:], wants)


CHANGES = {"put": after_put, "take": after_take, "want": after_want, "come": after_come, "stay": after_stay}

# How many values stand behind the name of each edit.
VALUES = {"put": 2, "take": 2, "want": 2, "come": 2, "stay": 1}


def state_after(state, edit):
    """Return the state after an edit, or raise the error of this edit."""
    name, *values = edit
    change = CHANGES[name]
    return change(state, *values)


def check_batch(value):
    """Raise BadEdits if any value is not a batch of edits by its form, then BadEdit for what is no edit in it."""
    if not isinstance(value, (list, tuple)) or len(value) > BATCH:
        raise BadEdits()
    for index, edit in enumerate(value):
        if not is_edit(edit):
            raise BadEdit(index)


def is_edit(value):
    """Tell whether any value is the name of an edit with as many values as it takes."""
    if not isinstance(value, tuple) or len(value) == 0:
        return False
    name = value[0]
    # Not every value can be looked up.
    if not isinstance(name, str) or name not in VALUES:
        return False
    return len(value) == VALUES[name] + 1
