"""Corridors: a row, walkers and wants that are edited, one edit after another, and edited back."""

from chairwalks.changes import check_batch, state_after
from chairwalks.checks import is_number
from chairwalks.errors import BadRow, BadWalkers, BadWants, Busy, ChairError, NoStation, NothingToUndo
from chairwalks.errors import NoVersion, NoWalker, Rejected, TooLow, TooManyEdits
from chairwalks.guards import Guard
from chairwalks.more import most_at
from chairwalks.plans import row_after, rule_plan
from chairwalks.rows import are_walkers, check_station, row_error
from chairwalks.texts import parse_corridor
from chairwalks.wants import are_wants, can_be_met, find_certificate


class Corridor:
    """A row, walkers and wants, with the edits that have made them what they are."""

    # The number MAX_EDITS of chairwalks.bounds: here it must be written out.
    MOST_EDITS = 60

    def __init__(self, row, walkers, wants):
        error = row_error(row)
        if error is not None:
            raise BadRow(error)
        if not are_walkers(len(row), walkers):
            raise BadWalkers(walkers)
        if not are_wants(len(row), wants):
            raise BadWants(wants)
        self._edits = ()
        # The states after 0, 1, .. and all of the edits. They are never changed, only replaced,
        # so that the old tuple brings back all that a batch has done.
        self._states = ((row, walkers, wants),)
        self._watched = False

    @property
    def row(self):
        """How many chairs stand at each station."""
        return self._states[-1][0]

    @property
    def walkers(self):
        """The ways of the walkers, in their order."""
        return self._states[-1][1]

    @property
    def wants(self):
        """How many chairs are wanted at each station."""
        return self._states[-1][2]

    @property
    def met(self):
        """Whether the wants can be met."""
        return can_be_met(self.row, self.walkers, self.wants)

    def put(self, station, count):
        """Add chairs at a station; return the new version, as all edits do."""
        return self._edit(("put", station, count))

    def take(self, station, count):
        """Take chairs away from a station."""
        return self._edit(("take", station, count))

    def want(self, station, number):
        """Set the want of a station."""
        return self._edit(("want", station, number))

    def come(self, first, last):
        """Add a walker behind all others."""
        return self._edit(("come", first, last))

    def stay(self, index):
        """Remove a walker."""
        return self._edit(("stay", index))

    def undo(self):
        """Remove the last edit and return the new version."""
        self._check_free()
        if len(self._edits) == 0:
            raise NothingToUndo()
        self._edits = self._edits[:-1]
        self._states = self._states[:-1]
        return len(self._edits)

    def attempt(self, edits, *, watch=None):
        """Do all edits of a batch, or none if one raises an error; return how many were done.

        After each edit watch, if it is not None, is called with the corridor, and ends the batch
        by a value that counts as true.
        """
        self._check_free()
        check_batch(edits)
        kept_edits, kept_states = self._edits, self._states
        try:
            done = self._do_batch(tuple(edits), watch)
            kept_edits, kept_states = self._edits, self._states
        finally:
            self._edits, self._states = kept_edits, kept_states
        return done

    def state(self, *, version=None):
        """Return (row, walkers, wants), now or after so many of the edits that stand."""
        if version is None:
            return self._states[-1]
        if not is_number(version, 0, len(self._edits)):
            raise NoVersion(version)
        return self._states[version]

    def certificate(self, *, version=None):
        """Return a plan that meets the wants, or a bar for them, as find_certificate does."""
        row, walkers, wants = self.state(version=version)
        return find_certificate(row, walkers, wants)

    def most(self, station, *, version=None):
        """Return the greatest number of chairs that can be at this station in the end."""
        row, walkers, _ = self.state(version=version)
        check_station(row, station)
        return most_at(row, walkers, station)

    def walk(self):
        """Yield (walker, stages, chairs) for each walker under the rule, one after another."""
        chairs = self.row
        for number, walker in enumerate(self.walkers):
            plan = rule_plan(chairs, (walker,))
            chairs = row_after(chairs, (walker,), plan)
            yield (number, plan[0], chairs)

    def edits(self):
        """Return the edits that stand, as tuples of the name and the values."""
        return self._edits

    @classmethod
    def read(cls, text):
        """Return a new corridor with the row, the walkers and the wants of a text."""
        row, walkers, wants = parse_corridor(text)
        return cls(row, walkers, wants)

    def __len__(self):
        return len(self._edits)

    def __str__(self):
        return ", ".join([
            f"{len(self.row)} stations",
            f"{sum(self.row)} chairs",
            f"{len(self.walkers)} walkers",
            "met" if self.met else "not met",
            f"{len(self._edits)} edits",
        ])

    def __eq__(self, other):
        return isinstance(other, Corridor) and self._identity() == other._identity()

    def _identity(self):
        """Return what is equal for equal corridors."""
        return (self.state(),)

    def _check_free(self):
        """Raise Busy while a watch of this corridor runs."""
        if self._watched:
            raise Busy()

    def _check_state(self, state):
        """Raise an error if no edit may lead to this state; here any edit may lead to any state."""

    def _edit(self, edit):
        """Do an edit and return the new version."""
        self._check_free()
        if len(self._edits) >= self.MOST_EDITS:
            raise TooManyEdits()
        state = state_after(self.state(), edit)
        self._check_state(state)
        self._edits = self._edits + (edit,)
        self._states = self._states + (state,)
        return len(self._edits)

    def _do_batch(self, batch, watch):
        """Do the edits until watch ends the batch, and return how many were done."""
        for index, edit in enumerate(batch):
            try:
                self._edit(edit)
            except (ChairError, NoStation, NoWalker) as error:
                raise Rejected(index) from error
            if watch is not None and self._is_ended_by(watch):
                return index + 1
        return len(batch)

    def _is_ended_by(self, watch):
        """Call watch and tell whether it ends the batch."""
        self._watched = True
        try:
            return bool(watch(self))
        finally:
            self._watched = False


class GuardedCorridor(Corridor, Guard):
    """A corridor in which no edit may leave fewer chairs possible at the post than the least number."""

    def __init__(self, row, walkers, wants, post, least):
        Corridor.__init__(self, row, walkers, wants)
        Guard.__init__(self, post, least)
        check_station(row, post)
        self._check_state(self.state())

    def _identity(self):
        """Return what is equal for equal corridors: with a guard, the guard's numbers too."""
        return (self.state(), self.post, self.least)

    def _check_state(self, state):
        """Raise TooLow if too few chairs can be at the post in this state."""
        row, walkers, _ = state
        number = most_at(row, walkers, self.post)
        if number < self.least:
            raise TooLow(number)
