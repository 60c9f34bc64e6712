"""Rings, windows, rules, and fillings that fit them."""

from ringwindows.bounds import LIMIT, MAX_RULES


def is_number(value):
    """Returns whether any value is an int that is not a bool."""
    # Python counts True and False as ints; the document does not.
    return isinstance(value, int) and not isinstance(value, bool)


def is_within(value, low, high):
    """Returns whether any value is a number from low to high."""
    return is_number(value) and value >= low and value <= high


def is_rule(n, value):
    """Returns whether any value is a rule for n."""
    if not isinstance(value, tuple) or len(value) != 4:
        return False
    first, size, least, most = value
    if not is_within(first, 0, n - 1) or not is_within(size, 1, n):
        return False
    return is_within(least, 0, LIMIT) and (most is None or is_within(most, 0, LIMIT))


def is_filling(n, value):
    """Returns whether any value is a filling for n."""
    if not isinstance(value, tuple) or len(value) != n:
        return False
    return all([is_number(count) and count >= 0 for count in value])


def is_rules(n, value):
    """Returns whether any value is rules for n."""
    return rules_error(n, value) is None


def rules_error(n, value):
    """Returns None if any value is rules for n, otherwise what is wrong with it."""
    if not isinstance(value, tuple) or len(value) > MAX_RULES:
        return (None, "rules")
    for index, item in enumerate(value):
        if not is_rule(n, item):
            return (index, "rule")
    return None


def covers(n, first, size, place):
    """Returns whether the window contains the place."""
    return (place - first) % n < size


def window_places(n, first, size):
    """Returns the ascending tuple of the places of the window."""
    return tuple([place for place in range(n) if covers(n, first, size, place)])


def window_sum(filling, first, size):
    """Returns the sum of the counts of the window."""
    return sum([filling[place] for place in window_places(len(filling), first, size)])


def broken_rules(n, rules, filling):
    """Returns the ascending tuple of (index, "least") and (index, "most") of what the filling breaks."""
    broken = []
    for index, (first, size, least, most) in enumerate(rules):
        units = window_sum(filling, first, size)
        if units < least:
            broken.append((index, "least"))
        if most is not None and units > most:
            broken.append((index, "most"))
    return tuple(broken)


def fits(n, rules, value):
    """Returns whether any value is a filling for n that fits all rules."""
    return is_filling(n, value) and broken_rules(n, rules, value) == ()


def turned_rules(n, rules, place):
    """Returns the rules for the ring whose names of places begin with 0 at this place."""
    return tuple([((first - place) % n, size, least, most) for first, size, least, most in rules])


def mirrored_rules(n, rules):
    """Returns the rules for the ring on which the places have their names in reverse order."""
    return tuple([((0 - first - size) % n, size, least, most) for first, size, least, most in rules])
