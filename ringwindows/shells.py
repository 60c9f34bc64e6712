"""A shell: commands for a desk and answers, both as texts."""

from ringwindows.errors import (
    BadSize, BadUnits, Broken, Busy, NoPlace, NoRule, NothingToUndo, NoTotal, TooFew, TooManyEdits, TooManyRules,
)
from ringwindows.texts import filling_text, number_of, ring_text, rule_of

UNKNOWN = "unknown command"
MAX_SHELL_DIGITS = 13

# The commands that numbers follow, and how many; add is followed by the text of a rule.
NUMBERS = {"move": 2, "fill": 1, "drop": 1, "undo": 0, "filling": 0, "ring": 0, "totals": 0, "range": 2}


def signed_number_of(word):
    """Returns the number that is written so, or None if there is none of at most MAX_SHELL_DIGITS digits."""
    negative = word.startswith("-")
    digits = word[1:] if negative else word
    number = number_of(digits)
    if number is None or len(digits) > MAX_SHELL_DIGITS:
        return None
    if negative:
        # There is no "-0".
        return None if number == 0 else -number
    return number


def command_of(n, words):
    """Returns the values behind the first word as a list, or None if the words are no command for a ring of n."""
    name = words[0]
    if name == "add":
        values = [rule_of(n, word) for word in words[1:]]
        many = 1
    else:
        values = [signed_number_of(word) for word in words[1:]]
        many = NUMBERS.get(name, None)
    if len(values) != many or None in values:
        return None
    return values


def pair_text(pair):
    """Returns the text of two numbers, the second of which may be None."""
    return " ".join(["none" if number is None else str(number) for number in pair])


def changed_text(desk, name, values):
    """Calls the method with this name that changes the desk, and returns the answer."""
    if name == "move":
        version = desk.move(values[0], values[1])
    elif name == "fill":
        version = desk.fill(values[0])
    elif name == "add":
        version = desk.add(values[0])
    elif name == "drop":
        version = desk.drop(values[0])
    else:
        version = desk.undo()
    return f"ok {version}"


def answer_of(desk, name, values):
    """Returns the answer of the desk to the command."""
    if name == "filling":
        return filling_text(desk.filling)
    if name == "ring":
        return ring_text(desk.n, desk.rules)
    if name == "totals":
        return pair_text(desk.totals)
    if name == "range":
        return pair_text(desk.range_of(values[0], values[1]))
    return changed_text(desk, name, values)


class Shell:
    """Executes commands on a desk."""

    def __init__(self, desk):
        self.desk = desk

    def execute(self, line):
        """Returns the answer to any value."""
        if not isinstance(line, str):
            return UNKNOWN
        words = line.split(" ")
        values = command_of(self.desk.n, words)
        if values is None:
            return UNKNOWN
        try:
            return answer_of(self.desk, words[0], values)
        except Busy:
            return "error Busy"
        except TooManyEdits:
            return "error TooManyEdits"
        except NoPlace:
            return "error NoPlace"
        except BadUnits:
            return "error BadUnits"
        except TooFew:
            return "error TooFew"
        except Broken:
            return "error Broken"
        except NoTotal:
            return "error NoTotal"
        except TooManyRules:
            return "error TooManyRules"
        except NoRule:
            return "error NoRule"
        except NothingToUndo:
            return "error NothingToUndo"
        except BadSize:
            return "error BadSize"
