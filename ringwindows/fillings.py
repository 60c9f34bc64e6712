"""The fillings of a total that fit: the sums of their windows, and all of them in order.

Two fillings of a total are in the same order as the lists of their heights (loops.py says what
heights are). With the height of place 0 fixed, the least heights that all links allow belong to
the smallest filling, and the greatest ones to the greatest filling.

A single question is answered by raising the heights from one place on until all links hold. A
walk asks for one filling after another, so it first finds the rises between all places.
"""

from ringwindows.bounds import LISTED
from ringwindows.errors import TooMany
from ringwindows.loops import counts_of, heights_of, links_of


def climbs_of(n, rules, total):
    """Returns the links for this total as a list of (start, end, climb): end is higher than start by climb or more."""
    return [(start, end, gain - turns * total) for start, end, gain, turns, label in links_of(n, rules)]


def settled(climbs, heights):
    """Returns the least heights from these on for which all climbs hold, or None if there are none."""
    # After as many turns as there are places, only a loop that climbs raises anything further.
    for turn in range(len(heights)):
        higher = list(heights)
        for start, end, climb in climbs:
            height = higher[start] + climb
            if height > higher[end]:
                higher[end] = height
        if higher == heights:
            return heights
        heights = higher
    return None


def heights_from(n, climbs, total, start):
    """Returns the least heights over that of the place start, or None if the total is not possible."""
    # A way onward round the ring never descends, except by the total where the heights begin again.
    return settled(climbs, [-total if place < start else 0 for place in range(n)])


def window_range(n, rules, total, first, size):
    """Returns None if the total is not possible, otherwise the least and the greatest sum of the window."""
    climbs = climbs_of(n, rules, total)
    end = (first + size) % n
    passed = (first + size) // n * total
    onward = heights_from(n, climbs, total, first)
    if onward is None:
        return None
    back = heights_from(n, climbs, total, end)
    return (passed + onward[end], passed - back[first])


def smallest_filling(n, rules, total):
    """Returns the smallest filling with this total that fits, or None if there is none."""
    heights = heights_from(n, climbs_of(n, rules, total), total, 0)
    if heights is None:
        return None
    return counts_of(heights, total)


def greatest_filling(n, rules, total):
    """Returns the greatest filling with this total that fits, or None if there is none."""
    # The greatest heights are the least depths: seen from above, each climb leads the other way.
    descents = [(end, start, climb) for start, end, climb in climbs_of(n, rules, total)]
    depths = settled(descents, [0] + [-total] * (n - 1))
    if depths is None:
        return None
    return counts_of([-depth for depth in depths], total)


def last_to_rise(n, climbs, heights):
    """Returns the last place that can be higher by 1 while all places before it stay, 0 if no other can."""
    taut = [(start, end) for start, end, climb in climbs if heights[start] + climb == heights[end]]
    # The first place that has to rise with each place.
    firsts = list(range(n))
    before = []
    while firsts != before:
        before = list(firsts)
        for start, end in taut:
            if firsts[end] < firsts[start]:
                firsts[start] = firsts[end]
    return max([place for place in range(n) if firsts[place] == place])


def next_filling(n, rules, filling):
    """Returns the smallest greater filling with the same total that fits, or None if there is none."""
    total = sum(filling)
    climbs = climbs_of(n, rules, total)
    heights = heights_of(filling)
    # The later the first place that changes, the smaller the filling.
    place = last_to_rise(n, climbs, heights)
    if place == 0:
        return None
    return counts_of(settled(climbs, heights[:place] + [heights[place] + 1] * (n - place)), total)


def raised_over(rises, middle):
    """Returns the rises where each walk may also go over the place middle."""
    onward = rises[middle]
    return [[max(rise, row[middle] + more) for rise, more in zip(row, onward)] for row in rises]


def least_rises(n, rules, total):
    """Returns the rises of the total, or None if it is not possible.

    rises[start][end] is the least number by which end is higher than start, negative if end may
    be lower. Heights that keep them for some places can always be completed for the others.
    """
    rises = [[0 if start <= end else -total for end in range(n)] for start in range(n)]
    for start, end, climb in climbs_of(n, rules, total):
        rises[start][end] = max(rises[start][end], climb)
    for middle in range(n):
        rises = raised_over(rises, middle)
    if any([rises[place][place] > 0 for place in range(n)]):
        return None
    return rises


def can_rise(rises, heights, place):
    """Returns whether the place can be higher while all places before it stay as they are."""
    return all([heights[place] + 1 + rises[place][before] <= heights[before] for before in range(place)])


def completed(n, rises, fixed):
    """Returns the least heights of all places that begin with the fixed ones."""
    many = len(fixed)
    rest = [max([fixed[before] + rises[before][place] for before in range(many)]) for place in range(many, n)]
    return fixed + rest


def next_heights(n, rises, heights):
    """Returns the least heights after these, with the same height of place 0, or None if there are none."""
    for place in range(n - 1, 0, -1):
        if can_rise(rises, heights, place):
            return completed(n, rises, heights[:place] + [heights[place] + 1])
    return None


def walk_fillings(n, rules, total):
    """Yields all fillings with this total that fit, in ascending order."""
    rises = least_rises(n, rules, total)
    heights = None if rises is None else rises[0]
    while heights is not None:
        yield counts_of(heights, total)
        heights = next_heights(n, rises, heights)


def count_fillings(n, rules, total):
    """Returns how many fillings with this total fit."""
    many = 0
    for filling in walk_fillings(n, rules, total):
        many += 1
        if many > LISTED:
            raise TooMany(LISTED)
    return many
