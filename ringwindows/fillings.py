"""The fillings of a total that fit: the sums of their windows, and all of them in order.

Two fillings of a total are in the same order as the lists of their heights (loops.py says what
heights are). With the height of place 0 fixed, the least heights that all links allow belong to
the smallest filling, and the greatest ones to the greatest filling.
"""

from ringwindows.bounds import LISTED
from ringwindows.errors import TooMany
from ringwindows.loops import counts_of, heights_of, links_of


def raised_over(rises, middle):
    """Returns the rises where each walk may also go over the place middle."""
    onward = rises[middle]
    return [[max(rise, row[middle] + more) for rise, more in zip(row, onward)] for row in rises]


def least_rises(n, rules, total):
    """Returns the rises of the total, or None if it is not possible.

    rises[start][end] is the least number by which end is higher than start, negative if end may
    be lower. Heights that keep them for some places can always be completed for the others.
    """
    # A way onward round the ring never descends, except by the total where the heights begin again.
    rises = [[0 if start <= end else -total for end in range(n)] for start in range(n)]
    for origin, goal, gain, turns, label in links_of(n, rules):
        rises[origin][goal] = max(rises[origin][goal], gain - turns * total)
    for middle in range(n):
        rises = raised_over(rises, middle)
    if any([rises[place][place] > 0 for place in range(n)]):
        return None
    return rises


def window_range(n, rules, total, first, size):
    """Returns None if the total is not possible, otherwise the least and the greatest sum of the window."""
    rises = least_rises(n, rules, total)
    if rises is None:
        return None
    end = (first + size) % n
    passed = (first + size) // n * total
    return (passed + rises[first][end], passed - rises[end][first])


def smallest_filling(n, rules, total):
    """Returns the smallest filling with this total that fits, or None if there is none."""
    rises = least_rises(n, rules, total)
    if rises is None:
        return None
    return counts_of(rises[0], total)


def greatest_filling(n, rules, total):
    """Returns the greatest filling with this total that fits, or None if there is none."""
    rises = least_rises(n, rules, total)
    if rises is None:
        return None
    return counts_of([-row[0] for row in rises], total)


def can_rise(rises, heights, place):
    """Returns whether the place can be higher while all places before it stay as they are."""
    return all([heights[place] + 1 + rises[place][before] <= heights[before] for before in range(place)])


def completed(n, rises, fixed):
    """Returns the least heights of all places that begin with the fixed ones."""
    many = len(fixed)
    rest = [max([fixed[before] + rises[before][place] for before in range(many)]) for place in range(many, n)]
    return fixed + rest


def next_heights(n, rises, heights):
    """Returns the least heights after these, with the same height of place 0, or None if there are none."""
    # The later the first place that changes, the smaller the filling.
    for place in range(n - 1, 0, -1):
        if can_rise(rises, heights, place):
            return completed(n, rises, heights[:place] + [heights[place] + 1])
    return None


def next_filling(n, rules, filling):
    """Returns the smallest greater filling with the same total that fits, or None if there is none."""
    total = sum(filling)
    heights = next_heights(n, least_rises(n, rules, total), heights_of(filling))
    if heights is None:
        return None
    return counts_of(heights, total)


def walk_fillings(n, rules, total):
    """Yields all fillings with this total that fit, in ascending order."""
    rises = least_rises(n, rules, total)
    heights = None if rises is None else rises[0]
    while heights is not None:
        yield counts_of(heights, total)
        heights = next_heights(n, rises, heights)


def count_fillings(n, rules, total):
    """Returns how many fillings with this total fit."""
    many = 0
    for filling in walk_fillings(n, rules, total):
        many += 1
        if many > LISTED:
            raise TooMany(LISTED)
    return many
