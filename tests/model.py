"""Desks a second time, as plainly as possible: each answer is worked out from the list of edits that stand.

Nothing here imports the package: the tests compare the two. Totals are searched one by one, so the rings are small.
"""

from itertools import count

from tests import oracle
from tests.oracle import LIMIT, plain

MOST = 10 ** 25
TAKES = {"move": 2, "fill": 1, "put": 1, "add": 1, "drop": 1}


def within(value, low, high):
    return plain(value) and low <= value <= high


def totals(n, rules):
    """The least and the greatest possible total; there is at least one."""
    low = next(total for total in count() if oracle.can_fill(n, rules, total))
    if any(oracle.place_is_free(n, rules, place) for place in range(n)):
        return (low, None)
    return (low, next(total for total in count(low) if not oracle.can_fill(n, rules, total + 1)))


def least_sum(n, rules, total, first, size):
    """The least sum of the window; the total is possible."""
    low, high = 0, total
    while low < high:
        middle = (low + high) // 2
        if oracle.can_fill(n, rules + ((first, size, 0, middle),), total):
            high = middle
        else:
            low = middle + 1
    return low


def smallest(n, rules, total):
    """The smallest filling with the total that fits, or None."""
    if not oracle.can_fill(n, rules, total):
        return None
    filling = ()
    for place in range(n):
        fixed = oracle.counts_fixed(filling, place)
        filling += (least_sum(n, rules + fixed, total, place, 1),)
    return filling


def window(n, rules, total, first, size):
    """The least and the greatest sum of the window; the total is possible."""
    least = least_sum(n, rules, total, first, size)
    if size == n:
        return (least, total)
    # The other places have the rest of the total.
    return (least, total - least_sum(n, rules, total, (first + size) % n, n - size))


def first_broken(rules, filling):
    """The index of the first rule that the filling does not fit, or None."""
    return next((at for at, rule in enumerate(rules) if not oracle.fit((rule,), filling)), None)


def shifted(filling, border, units):
    """The filling after a move, perhaps with a count below 0."""
    counts = list(filling)
    counts[(border - 1) % len(filling)] -= units
    counts[border] += units
    return tuple(counts)


def after_edit(n, rules, filling, edit):
    """The rules and the filling after an edit that is not refused."""
    name, value = edit[:2]
    if name == "move":
        return rules, shifted(filling, value, edit[2])
    if name == "fill":
        return rules, smallest(n, rules, value)
    if name == "put":
        return rules, value
    if name == "add":
        return rules + (value,), filling
    return tuple(rule for at, rule in enumerate(rules) if at != value), filling


def broken(rules, filling, offset=0):
    at = first_broken(rules, filling)
    return None if at is None else ("Broken", {"index": at + offset})


def refusal(n, rules, filling, edit):
    """None, or the name and the fields of the error that the edit raises."""
    name, value = edit[:2]
    if name == "move":
        if not within(value, 0, n - 1):
            return ("NoPlace", {"value": value})
        if not within(edit[2], -LIMIT, LIMIT):
            return ("BadUnits", {"value": edit[2]})
        moved = shifted(filling, value, edit[2])
        return ("TooFew", {}) if min(moved) < 0 else broken(rules, moved)
    if name == "fill":
        possible = within(value, 0, MOST) and oracle.can_fill(n, rules, value)
        return None if possible else ("NoTotal", {"value": value})
    if name == "put":
        if not oracle.filling_is_right(n, value) or max(value) > MOST:
            return ("BadFilling", {"value": value})
        return broken(rules, value)
    if name == "add":
        if not oracle.rule_is_right(n, value):
            return ("BadRule", {"value": value})
        return ("TooManyRules", {}) if len(rules) == 16 else broken((value,), filling, len(rules))
    return None if within(value, 0, len(rules) - 1) else ("NoRule", {"value": value})


class Model:
    """What a desk is to answer, and the lines of its log."""

    def __init__(self, n, rules):
        self.n = n
        self.start = (rules, smallest(n, rules, totals(n, rules)[0]))
        self.edits = []
        self.noted = []

    def state(self, version):
        rules, filling = self.start
        for edit in self.edits[:version]:
            rules, filling = after_edit(self.n, rules, filling, edit)
        return rules, filling

    def refusal(self, edit):
        if len(self.edits) == 60:
            return ("TooManyEdits", {})
        return refusal(self.n, *self.state(60), edit)

    def edit(self, *edit):
        """The outcome of an edit alone."""
        refused = self.refusal(edit)
        if refused is not None:
            return ("raises",) + refused
        self.edits.append(edit)
        self.noted.append(edit[0])
        return ("returns", len(self.edits))

    def undo(self):
        if not self.edits:
            return ("raises", "NothingToUndo", {})
        self.edits.pop()
        self.noted.append("undo")
        return ("returns", len(self.edits))

    def attempt(self, edits):
        if type(edits) not in (list, tuple) or len(edits) > 20:
            return ("raises", "BadEdits", {})
        for index, edit in enumerate(edits):
            known = type(edit) is tuple and edit != () and type(edit[0]) is str and edit[0] in TAKES
            if not known or len(edit) != 1 + TAKES[edit[0]]:
                return ("raises", "BadEdit", {"index": index})
        before, noted = list(self.edits), list(self.noted)
        for index, edit in enumerate(edits):
            if self.edit(*edit)[0] == "raises":
                self.edits, self.noted = before, noted
                return ("raises", "Rejected", {"index": index})
        return ("returns", len(self.edits))

    def view(self):
        """All that a desk tells without an argument, or with each version."""
        rules, filling = self.state(60)
        many = len(self.edits)
        words = f"{self.n} places, {len(rules)} rules, total {sum(filling)}, {many} edits"
        versions = [self.state(version) for version in range(many + 1)]
        return (rules, filling, sum(filling), totals(self.n, rules), many, words, tuple(self.edits), versions)
