"""Reasons, the totals that are possible, and certificates for them."""

from ringwindows.bounds import MAX_REASON
from ringwindows.loops import counts_of, links_of, reason_of, settle, turns_of
from ringwindows.rules import covers, fits, is_within


def is_pair(value):
    """Returns whether any value is a tuple of two items."""
    return isinstance(value, tuple) and len(value) == 2


def are_indexes(rules, value):
    """Returns whether any value is a sorted tuple of indexes of rules."""
    if not isinstance(value, tuple):
        return False
    if not all([is_within(index, 0, len(rules) - 1) for index in value]):
        return False
    return list(value) == sorted(value)


def is_reason(rules, value):
    """Returns whether any value is a reason."""
    if not is_pair(value):
        return False
    leasts, mosts = value
    if not are_indexes(rules, leasts) or not are_indexes(rules, mosts):
        return False
    if len(leasts) + len(mosts) > MAX_REASON:
        return False
    return all([rules[index][3] is not None for index in mosts])


def times_covered(n, rules, indexes, place):
    """Returns how many of the windows of these rules contain the place."""
    return sum([1 for index in indexes if covers(n, rules[index][0], rules[index][1], place)])


def bound_of(n, rules, value):
    """Returns None if any value is not a reason, otherwise its bound."""
    if not is_reason(rules, value):
        return None
    leasts, mosts = value
    demand = sum([rules[index][2] for index in leasts]) - sum([rules[index][3] for index in mosts])
    cover = max([times_covered(n, rules, leasts, place) - times_covered(n, rules, mosts, place) for place in range(n)])
    if cover > 0:
        # The quotient is rounded up, because // rounds down.
        return ("least", max(0, -(-demand // cover)))
    if demand > 0:
        return ("never",)
    if cover < 0:
        return ("most", demand // cover)
    return ("none",)


def lacks_most(n, rules, place):
    """Returns whether the place is in no window of a rule with a most."""
    return all([most is None or not covers(n, first, size, place) for first, size, least, most in rules])


def lowest_total(n, rules, links):
    """Returns the least possible total, or if there is none, a total that is excluded from above and below.

    Every lesser total is too low; the result is possible, or its loop does not say that it is too low.
    """
    low = 0
    # No loop contains a link twice, so no loop says that this total is too low.
    high = sum([least for first, size, least, most in rules])
    while low < high:
        middle = (low + high) // 2
        heights, loop = settle(n, links, middle)
        if loop is not None and turns_of(loop) > 0:
            low = middle + 1
        else:
            high = middle
    return low


def greatest_total(n, rules, links, possible):
    """Returns the greatest possible total if each place is in a window of a rule with a most."""
    low = possible
    high = sum([most for first, size, least, most in rules if most is not None])
    while low < high:
        middle = (low + high + 1) // 2
        heights, loop = settle(n, links, middle)
        if loop is None:
            low = middle
        else:
            high = middle - 1
    return low


def reason_against(n, links, total):
    """Returns a reason why the total, which is from 0 on, is not possible."""
    heights, loop = settle(n, links, total)
    return reason_of(loop)


def upper_part(n, rules, links, possible):
    """Returns the last part of the certificate of rules for which a total is possible."""
    for place in range(n):
        if lacks_most(n, rules, place):
            return (None, place)
    high = greatest_total(n, rules, links, possible)
    heights, loop = settle(n, links, high)
    return (counts_of(heights, high), reason_against(n, links, high + 1))


def never_certificate(n, rules, below, above):
    """Returns the certificate that two reasons give which exclude all totals together."""
    for reason in (below, above):
        if bound_of(n, rules, reason) == ("never",):
            return ("never", reason)
    return ("never", below, above)


def find_certificate(n, rules):
    """Returns a certificate for the possible totals, or that there are none."""
    links = links_of(n, rules)
    low = lowest_total(n, rules, links)
    below = None if low == 0 else reason_against(n, links, low - 1)
    heights, loop = settle(n, links, low)
    if loop is not None:
        return never_certificate(n, rules, below, reason_of(loop))
    return ("totals", (counts_of(heights, low), below), upper_part(n, rules, links, low))


def totals_of(n, rules):
    """Returns None if no filling fits, otherwise the least and the greatest total (None if there is no greatest)."""
    certificate = find_certificate(n, rules)
    if certificate[0] == "never":
        return None
    low = certificate[1][0]
    high = certificate[2][0]
    return (sum(low), None if high is None else sum(high))


def lower_holds(n, rules, value):
    """Returns whether any value is the part of a certificate about the least total."""
    if not is_pair(value):
        return False
    low, reason = value
    if not fits(n, rules, low):
        return False
    if sum(low) == 0:
        return reason is None
    return bound_of(n, rules, reason) == ("least", sum(low))


def upper_holds(n, rules, value):
    """Returns whether any value is the part of a certificate about the greatest total."""
    if not is_pair(value):
        return False
    high, other = value
    if high is None:
        return is_within(other, 0, n - 1) and lacks_most(n, rules, other)
    return fits(n, rules, high) and bound_of(n, rules, other) == ("most", sum(high))


def contradict(below, above):
    """Returns whether two bounds, or None, are a least and a most that is less than it."""
    if below is None or above is None:
        return False
    return below[0] == "least" and above[0] == "most" and below[1] > above[1]


def certificate_holds(n, rules, value):
    """Returns whether any value is a certificate."""
    if not isinstance(value, tuple) or len(value) not in (2, 3):
        return False
    if value[0] == "totals":
        return len(value) == 3 and lower_holds(n, rules, value[1]) and upper_holds(n, rules, value[2])
    if value[0] != "never":
        return False
    if len(value) == 2:
        return bound_of(n, rules, value[1]) == ("never",)
    return contradict(bound_of(n, rules, value[1]), bound_of(n, rules, value[2]))
