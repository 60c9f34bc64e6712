"""Fillings divided into even parts, and sums of fillings."""

from ringwindows.bounds import LIMIT
from ringwindows.errors import NotAlike, NotDivisible, OutOfRange
from ringwindows.loops import heights_of


def part_of(sums, many, rank):
    """Returns the part with this rank of the filling that has these sums before each place and the total last."""
    # The sums are divided, not the counts: so a window never gets more than its share, rounded up.
    shares = [(units + rank) // many for units in sums]
    return tuple([end - start for start, end in zip(shares, shares[1:])])


def parts_of(filling, many):
    """Returns so many fillings that sum up to the filling, with even shares of each window."""
    total = sum(filling)
    if total % many != 0:
        raise NotDivisible(total)
    sums = heights_of(filling) + [total]
    return tuple([part_of(sums, many, rank) for rank in range(many)])


def joined(*fillings):
    """Returns the sum of the fillings, place by place."""
    n = len(fillings[0])
    for index, filling in enumerate(fillings):
        if len(filling) != n:
            raise NotAlike(index)
    return tuple([sum([filling[place] for filling in fillings]) for place in range(n)])


def scaled(units, many):
    """Returns a least or a most multiplied by many."""
    if units is None:
        return None
    if units * many > LIMIT:
        raise OutOfRange()
    return units * many


def scaled_rules(rules, many):
    """Returns the rules with each least and each most multiplied by many."""
    return tuple([(first, size, scaled(least, many), scaled(most, many)) for first, size, least, most in rules])
