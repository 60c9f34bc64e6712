"""The texts of rings and fillings, and back."""

from ringwindows.bounds import MAX_PLACES, MAX_RULES
from ringwindows.errors import BadText
from ringwindows.rules import is_rule, is_within

MAX_DIGITS = 30


def rule_text(rule):
    """Returns the text of the rule."""
    first, size, least, most = rule
    ending = "" if most is None else str(most)
    return f"{first}+{size}:{least}..{ending}"


def ring_text(n, rules):
    """Returns the text of the ring."""
    return " ".join([f"{n}:"] + [rule_text(rule) for rule in rules])


def filling_text(filling):
    """Returns the text of the filling."""
    return " ".join([str(count) for count in filling])


def number_of(word):
    """Returns the number from 0 on that is written so, or None if there is none of at most MAX_DIGITS digits."""
    # Python has digits that are not ASCII, and it refuses to convert very long numbers.
    if not word.isascii() or not word.isdigit() or len(word) > MAX_DIGITS:
        return None
    number = int(word)
    # With leading zeros it is written otherwise.
    return number if str(number) == word else None


def rule_of(n, word):
    """Returns the rule for n whose text the word is, or None if there is none."""
    first, plus, rest = word.partition("+")
    size, colon, limits = rest.partition(":")
    least, dots, most = limits.partition("..")
    rule = (number_of(first), number_of(size), number_of(least), number_of(most))
    # A most that is no number looks like one that is left out, until the rule is written again.
    if is_rule(n, rule) and rule_text(rule) == word:
        return rule
    return None


def places_of(word):
    """Returns the number of places that the first word of the text of a ring tells, or None if it tells none."""
    if not word.endswith(":"):
        return None
    number = number_of(word[:-1])
    return number if is_within(number, 1, MAX_PLACES) else None


def parse_ring(value):
    """Returns the number of places and the rules whose text any value is."""
    if not isinstance(value, str):
        raise BadText(None)
    words = value.split(" ")
    n = places_of(words[0])
    if n is None:
        raise BadText(0)
    rules = []
    for index, word in enumerate(words[1:], start=1):
        rule = rule_of(n, word)
        if rule is None or index > MAX_RULES:
            raise BadText(index)
        rules.append(rule)
    return (n, tuple(rules))


def parse_filling(n, value):
    """Returns the filling for n whose text any value is."""
    if not isinstance(value, str):
        raise BadText(None)
    counts = []
    for index, word in enumerate(value.split(" ")):
        count = number_of(word)
        if count is None or index >= n:
            raise BadText(index)
        counts.append(count)
    if len(counts) < n:
        raise BadText(len(counts))
    return tuple(counts)
