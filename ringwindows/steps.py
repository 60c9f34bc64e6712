"""Steps between fillings with the same total, and shortest ways on which all fillings fit.

If a unit crosses the border before a place, only the height of that place changes (loops.py says
what heights are). So a step changes each height by at most 1, and fillings stay the same if all
heights are shifted alike.
"""

from ringwindows.bounds import LISTED
from ringwindows.errors import TooMany
from ringwindows.loops import counts_of, heights_of
from ringwindows.rules import fits


def leads_of(one, other):
    """Returns for each place by how much it is higher in other than in one."""
    return [end - start for start, end in zip(heights_of(one), heights_of(other))]


def least_steps(one, other):
    """Returns None if the totals differ, otherwise the least number of steps from one to other."""
    if sum(one) != sum(other):
        return None
    leads = leads_of(one, other)
    return (max(leads) - min(leads) + 1) // 2


def filling_after(heights, shifts, total, steps):
    """Returns the filling whose heights have gone so many steps of 1 towards their shifts, or all of the way.

    Where two fillings fit, links also hold for the lower one of their heights at each place, for
    the higher one, and for heights that are shifted alike. The result is made by these alone: the
    lower one of the goal and of the start raised by the steps; then the higher one of that and of
    the start lowered by the steps. So it fits whatever rules both ends fit.
    """
    moved = [height + max(-steps, min(steps, shift)) for height, shift in zip(heights, shifts)]
    return counts_of(moved, total)


def find_way(n, rules, one, other):
    """Returns None if the totals differ, otherwise a shortest way from one to other on which all fillings fit."""
    many = least_steps(one, other)
    if many is None:
        return None
    if many > LISTED:
        raise TooMany(LISTED)
    heights = heights_of(one)
    leads = leads_of(one, other)
    # The leads lie so close together that, shifted alike, each is from -many to many.
    shifts = [lead - max(leads) + many for lead in leads]
    return tuple([filling_after(heights, shifts, sum(one), steps) for steps in range(many + 1)])


def is_step(one, other):
    """Returns whether there is a step from one to other."""
    steps = least_steps(one, other)
    return steps is not None and steps <= 1


def way_holds(n, rules, one, other, value):
    """Returns whether any value is a way from one to other on which all fillings fit."""
    if not isinstance(value, tuple) or len(value) == 0:
        return False
    if not all([fits(n, rules, filling) for filling in value]):
        return False
    if value[0] != one or value[-1] != other:
        return False
    return all([is_step(before, after) for before, after in zip(value, value[1:])])
