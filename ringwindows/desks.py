"""Desks: rules and a filling that are edited and undone."""

from ringwindows.bounds import MAX_EDITS, MAX_PLACES
from ringwindows.edits import batch_of, edited
from ringwindows.errors import (
    BadRing, BadRules, BadSize, Busy, Never, NoPlace, NoRule, NoTotal, NothingToUndo, NoVersion, Rejected, RingError,
    TooManyEdits,
)
from ringwindows.fillings import smallest_filling, window_range
from ringwindows.logs import Log
from ringwindows.reasons import totals_of
from ringwindows.rules import is_within, rules_error
from ringwindows.texts import parse_ring


def first_state(n, rules):
    """Returns the state in which a desk of any values begins: the rules, the filling, and the totals."""
    if not is_within(n, 1, MAX_PLACES):
        raise BadRing(n)
    error = rules_error(n, rules)
    if error is not None:
        raise BadRules(error)
    totals = totals_of(n, rules)
    if totals is None:
        raise Never()
    return (rules, smallest_filling(n, rules, totals[0]), totals)


def next_state(n, state, edit):
    """Returns the state after the edit."""
    rules, filling, totals = state
    after, filling = edited(n, rules, filling, edit)
    # Only other rules have other totals, and it takes a while to find them.
    if after != rules:
        totals = totals_of(n, after)
    return (after, filling, totals)


class Desk:
    """A ring, rules, a filling that fits them, and the edits that stand.

    All states are kept, one more than there are edits. They are tuples, so what a caller was
    given never changes, and an attempt goes back by taking up the tuple of the states before it.
    """

    MOST_EDITS = 60

    def __init__(self, n, rules):
        self.states = (first_state(n, rules),)
        self.n = n
        self.standing = ()
        self.busy = False

    @property
    def rules(self):
        """The rules."""
        return self.states[-1][0]

    @property
    def filling(self):
        """The filling."""
        return self.states[-1][1]

    @property
    def total(self):
        """The total of the filling."""
        return sum(self.filling)

    @property
    def totals(self):
        """The least and the greatest possible total (None if there is no greatest)."""
        return self.states[-1][2]

    def move(self, border, units):
        """Moves units from the place before border to the place border, and returns the new version."""
        return self.edit_alone(("move", border, units))

    def fill(self, total):
        """Takes the smallest filling with this total that fits, and returns the new version."""
        return self.edit_alone(("fill", total))

    def put(self, filling):
        """Takes this filling, and returns the new version."""
        return self.edit_alone(("put", filling))

    def add(self, rule):
        """Puts a further rule at the end, and returns the new version."""
        return self.edit_alone(("add", rule))

    def drop(self, index):
        """Removes the rule with this index, and returns the new version."""
        return self.edit_alone(("drop", index))

    def undo(self):
        """Removes the last edit that stands, and returns the new version."""
        self.refuse_if_busy()
        if len(self.standing) == 0:
            raise NothingToUndo()
        self.standing = self.standing[:-1]
        self.states = self.states[:-1]
        self.report("undo")
        return len(self)

    def attempt(self, edits, *, watch=None):
        """Does all edits, or none if one of them or watch raises an error, and returns the new version."""
        self.refuse_if_busy()
        batch = batch_of(edits)
        standing, states = self.standing, self.states
        # Only watch can call the desk before this ends, so the desk is busy exactly while watch runs.
        self.busy = True
        try:
            for index, edit in enumerate(batch):
                self.edit_in_batch(index, edit)
                if watch is not None:
                    watch(self)
            standing, states = self.standing, self.states
        finally:
            self.standing, self.states = standing, states
            self.busy = False
        for edit in batch:
            self.report(edit[0])
        return len(self)

    def state(self, *, version=None):
        """Returns the rules and the filling, now or of a version."""
        rules, filling, totals = self.state_of(version)
        return (rules, filling)

    def range_of(self, first, size, *, version=None):
        """Returns the least and the greatest sum of the window for the rules and the total, now or of a version."""
        rules, filling, totals = self.state_of(version)
        if not is_within(first, 0, self.n - 1):
            raise NoPlace(first)
        if not is_within(size, 1, self.n):
            raise BadSize(size)
        return window_range(self.n, rules, sum(filling), first, size)

    def edits(self):
        """Returns the edits that stand."""
        return self.standing

    @classmethod
    def read(cls, text):
        """Returns a new desk from the text of a ring."""
        n, rules = parse_ring(text)
        return cls(n, rules)

    def __len__(self):
        return len(self.standing)

    def __str__(self):
        return f"{self.n} places, {len(self.rules)} rules, total {self.total}, {len(self)} edits"

    def __eq__(self, other):
        if not isinstance(other, Desk):
            return False
        return self.n == other.n and self.rules == other.rules and self.filling == other.filling

    def refuse_if_busy(self):
        """Raises Busy while watch runs."""
        if self.busy:
            raise Busy()

    def edit_alone(self, edit):
        """Does an edit that is in no batch, and returns the new version."""
        self.refuse_if_busy()
        self.do_edit(edit)
        self.report(edit[0])
        return len(self)

    def edit_in_batch(self, index, edit):
        """Does the edit that has this index in a batch."""
        try:
            self.do_edit(edit)
        except (RingError, NoPlace, NoTotal, NoRule):
            raise Rejected(index)

    def do_edit(self, edit):
        """Does the edit without a report."""
        if len(self.standing) >= MAX_EDITS:
            raise TooManyEdits()
        state = next_state(self.n, self.states[-1], edit)
        self.states = self.states + (state,)
        self.standing = self.standing + (edit,)

    def state_of(self, version):
        """Returns the rules, the filling and the totals of the version, or now for None."""
        if version is None:
            return self.states[-1]
        if not is_within(version, 0, len(self.standing)):
            raise NoVersion(version)
        return self.states[version]

    def report(self, name):
        """Is called for each edit that is done for good and each undo; a plain desk has nobody to tell it."""


class LogDesk(Desk, Log):
    """A desk that notes its edits and undos."""

    def __init__(self, n, rules):
        Desk.__init__(self, n, rules)
        Log.__init__(self)

    def report(self, name):
        """Notes the name."""
        self.note(name)
