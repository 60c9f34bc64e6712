"""The five edits of a desk: what each of them makes of the rules and the filling, and what it refuses."""

from ringwindows.bounds import BATCH, LIMIT, MAX_COUNT, MAX_RULES
from ringwindows.errors import (
    BadEdit, BadEdits, BadFilling, BadRule, BadUnits, Broken, NoPlace, NoRule, NoTotal, TooFew, TooManyRules,
)
from ringwindows.fillings import smallest_filling
from ringwindows.rules import broken_rules, is_filling, is_rule, is_within

# The names of the edits, and how many values each of them takes.
TAKES = {"move": 2, "fill": 1, "put": 1, "add": 1, "drop": 1}


def is_edit(value):
    """Returns whether any value is an edit, with any values."""
    if not isinstance(value, tuple) or len(value) == 0 or not isinstance(value[0], str):
        return False
    return value[0] in TAKES and len(value) == 1 + TAKES[value[0]]


def batch_of(value):
    """Returns a copy of any value if it is a batch of edits."""
    if not isinstance(value, (list, tuple)) or len(value) > BATCH:
        raise BadEdits()
    for index, item in enumerate(value):
        if not is_edit(item):
            raise BadEdit(index)
    return tuple(value)


def fitted(n, rules, filling):
    """Returns the filling if it fits."""
    broken = broken_rules(n, rules, filling)
    if len(broken) > 0:
        raise Broken(broken[0][0])
    return filling


def moved(n, rules, filling, border, units):
    """Returns the filling after the move."""
    if not is_within(border, 0, n - 1):
        raise NoPlace(border)
    if not is_within(units, -LIMIT, LIMIT):
        raise BadUnits(units)
    counts = list(filling)
    # The place before place 0 is the last one, which has the index -1 as well.
    counts[border - 1] -= units
    counts[border] += units
    if min(counts) < 0:
        raise TooFew()
    return fitted(n, rules, tuple(counts))


def filled(n, rules, total):
    """Returns the smallest filling with this total that fits."""
    if not is_within(total, 0, MAX_COUNT):
        raise NoTotal(total)
    filling = smallest_filling(n, rules, total)
    if filling is None:
        raise NoTotal(total)
    return filling


def replaced(n, rules, filling):
    """Returns the filling if a desk can take it over."""
    if not is_filling(n, filling) or max(filling) > MAX_COUNT:
        raise BadFilling(filling)
    return fitted(n, rules, filling)


def lengthened(n, rules, filling, rule):
    """Returns the rules with a further one that the filling fits."""
    if not is_rule(n, rule):
        raise BadRule(rule)
    if len(rules) >= MAX_RULES:
        raise TooManyRules()
    if len(broken_rules(n, (rule,), filling)) > 0:
        raise Broken(len(rules))
    return rules + (rule,)


def shortened(rules, index):
    """Returns the rules without the one with this index."""
    if not is_within(index, 0, len(rules) - 1):
        raise NoRule(index)
    return rules[:index] + rules[index + 1:]


def edited(n, rules, filling, edit):
    """Returns the rules and the filling after the edit."""
    name = edit[0]
    if name == "move":
        return (rules, moved(n, rules, filling, edit[1], edit[2]))
    if name == "fill":
        return (rules, filled(n, rules, edit[1]))
    if name == "put":
        return (rules, replaced(n, rules, edit[1]))
    if name == "add":
        return (lengthened(n, rules, filling, edit[1]), filling)
    return (shortened(rules, edit[1]), filling)
