"""What the document says, written down a second time and as plainly as possible, and rings to try it on.

Nothing here imports the package: the tests compare the two.
"""

from fractions import Fraction
from itertools import product
from math import ceil, floor
from random import Random

LIMIT = 1000000000
TRIANGLE = ((0, 2, 1, 2), (1, 2, 1, 2), (2, 2, 1, 2))

# Any values, none of which is a number from 0 on, or a tuple of such numbers other than ().
JUNK = (
    None, True, False, -1, -10 ** 39, "", "0", "least", "never", "\n", (), [], {}, [0], [1, 0], {"a": 0},
    (None,), (True,), (False,), ((),), ([],), ("0",), (-1,), ((0,),), {"0": (0, 1)},
)


def plain(value):
    """Whether it is an int and not a bool."""
    return type(value) is int


def rule_is_right(n, rule):
    if type(rule) is not tuple or len(rule) != 4:
        return False
    first, size, least, most = rule
    if not (plain(first) and plain(size) and plain(least) and (most is None or plain(most))):
        return False
    return first in range(n) and size in range(1, n + 1) and all(0 <= x <= LIMIT for x in (least, most or 0))


def filling_is_right(n, filling):
    return type(filling) is tuple and len(filling) == n and all(plain(x) and x >= 0 for x in filling)


def places(n, first, size):
    return {(first + k) % n for k in range(size)}


def units(filling, first, size):
    return sum(filling[place] for place in places(len(filling), first, size))


def fit(rules, filling):
    for first, size, least, most in rules:
        found = units(filling, first, size)
        if found < least or (most is not None and found > most):
            return False
    return True


def reason_is_right(rules, reason):
    if type(reason) is not tuple or len(reason) != 2:
        return False
    for side in reason:
        if type(side) is not tuple or not all(plain(k) and k in range(len(rules)) for k in side):
            return False
        if any(side[k] > side[k + 1] for k in range(len(side) - 1)):
            return False
    return len(reason[0] + reason[1]) <= 24 and all(rules[k][3] is not None for k in reason[1])


def bound(n, rules, reason):
    if not reason_is_right(rules, reason):
        return None
    demand = 0
    cover = [0] * n
    for k in reason[0]:
        demand += rules[k][2]
        for place in places(n, rules[k][0], rules[k][1]):
            cover[place] += 1
    for k in reason[1]:
        demand -= rules[k][3]
        for place in places(n, rules[k][0], rules[k][1]):
            cover[place] -= 1
    c = max(cover)
    if c > 0:
        return ("least", max(0, ceil(Fraction(demand, c))))
    if demand > 0:
        return ("never",)
    return ("most", floor(Fraction(demand, c))) if c < 0 else ("none",)


def place_is_free(n, rules, place):
    if not plain(place) or place not in range(n):
        return False
    return all(most is None or place not in places(n, first, size) for first, size, least, most in rules)


def certificate_is_right(n, rules, value):
    if type(value) is not tuple or value == () or value[0] not in ("totals", "never"):
        return False
    if value[0] == "never":
        bounds = [bound(n, rules, reason) for reason in value[1:]]
        if len(bounds) == 1:
            return bounds[0] == ("never",)
        if len(bounds) != 2 or None in bounds:
            return False
        return bounds[0][0] == "least" and bounds[1][0] == "most" and bounds[0][1] > bounds[1][1]
    if len(value) != 3 or any(type(part) is not tuple or len(part) != 2 for part in value[1:]):
        return False
    (low, reason), (high, other) = value[1:]
    if not filling_is_right(n, low) or not fit(rules, low):
        return False
    if sum(low) == 0 and reason is not None:
        return False
    if sum(low) > 0 and bound(n, rules, reason) != ("least", sum(low)):
        return False
    if high is None:
        return place_is_free(n, rules, other)
    return filling_is_right(n, high) and fit(rules, high) and bound(n, rules, other) == ("most", sum(high))


def all_fillings(n, rules):
    """All fillings that fit with counts up to the greatest number in the rules.

    A count above it can be made that number: no least is missed by that, and no most exceeded.
    So the least total is among these, and so is the greatest one if there is one.
    """
    top = max([rule[2] for rule in rules] + [rule[3] or 0 for rule in rules] + [0])
    return [filling for filling in product(range(top + 1), repeat=n) if fit(rules, filling)]


def listed_totals(n, rules):
    totals = [sum(filling) for filling in all_fillings(n, rules)]
    if not totals:
        return None
    endless = any(place_is_free(n, rules, place) for place in range(n))
    return (min(totals), None if endless else max(totals))


def small_rings():
    """Small rings with all kinds of rules, few enough fillings to list."""
    random = Random(20)
    for n, top, rounds in ((1, 5, 60), (2, 4, 120), (3, 3, 200), (4, 2, 200), (5, 2, 80), (6, 1, 80)):
        for step in range(rounds):
            rules = []
            for index in range(random.randint(0, 7)):
                least = random.randint(0, top)
                most = random.choice([None, random.randint(0, top), random.randint(least, top), top])
                rules.append((random.randrange(n), random.randint(1, n), least, most))
            yield n, tuple(rules)


def near_rules(random, n, many, reach, slack):
    """Rules round a hidden filling, so that they bound each other closely."""
    hidden = [random.randint(0, reach // n) for place in range(n)]
    rules = []
    for index in range(many):
        first, size = random.randrange(n), random.randint(1, n)
        found = units(hidden, first, size)
        least = max(0, found - random.choice([0, 0, 1, random.randint(0, slack)]))
        most = min(LIMIT, found + random.choice([0, 0, 1, random.randint(0, slack)]))
        rules.append((first, size, least, random.choice([most, most, most, most, None])))
    return rules


def great_rings():
    """Rings of up to 12 places with up to 16 rules; the rules of every third contradict each other a little."""
    random = Random(21)
    for step in range(600):
        n = random.choice([1, 2, 3, 5, 7, 8, 11, 12, 12, 12])
        reach = random.choice([1, 20, 1000, LIMIT])
        rules = near_rules(random, n, random.choice([0, 1, 4, 8, 12, 15, 16]), reach, max(1, reach // 4))
        if rules and step % 3 == 0:
            at = random.randrange(len(rules))
            first, size, least, most = rules[at]
            rules[at] = (first, size, min(LIMIT, least + random.choice([1, 2, reach])), most)
        yield n, tuple(rules)


def wild_rings():
    """Rings of 12 places with 16 rules whose bounds have nothing to do with each other."""
    random = Random(22)
    for step in range(200):
        top = random.choice([1, 9, LIMIT])
        rules = []
        for index in range(16):
            least, most = random.randint(0, top), random.choice([None, random.randint(0, top), top])
            rules.append((random.randrange(12), random.randint(1, 12), least // random.choice([1, 2, 9]), most))
        yield 12, tuple(rules)


def rounding_rings():
    """Rings on which every window of a size has the same sum: only fractions would fit."""
    for n, size in ((3, 2), (5, 2), (5, 3), (7, 4), (11, 5), (11, 10), (12, 5), (12, 7), (12, 11)):
        for exact in (1, 2, 10 ** 6 + 1, LIMIT - 1, LIMIT):
            if n * exact % size != 0:
                yield n, tuple((first, size, exact, exact) for first in range(n))
