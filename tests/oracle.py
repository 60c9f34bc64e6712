"""What the document says, written down a second time and as plainly as possible, and rings to try it on.

Nothing here imports the package: the tests compare the two.
"""

from fractions import Fraction
from itertools import product
from math import ceil, floor
from random import Random
from re import fullmatch

LIMIT = 1000000000
TRIANGLE = ((0, 2, 1, 2), (1, 2, 1, 2), (2, 2, 1, 2))

# Any values, none of which is a number from 0 on, or a tuple of such numbers other than ().
JUNK = (
    None, True, False, -1, -10 ** 39, "", "0", "least", "never", "\n", (), [], {}, [0], [1, 0], {"a": 0},
    (None,), (True,), (False,), ((),), ([],), ("0",), (-1,), ((0,),), {"0": (0, 1)},
)


def plain(value):
    """Whether it is an int and not a bool."""
    return type(value) is int


def rule_is_right(n, rule):
    if type(rule) is not tuple or len(rule) != 4:
        return False
    first, size, least, most = rule
    if not (plain(first) and plain(size) and plain(least) and (most is None or plain(most))):
        return False
    return first in range(n) and size in range(1, n + 1) and all(0 <= x <= LIMIT for x in (least, most or 0))


def filling_is_right(n, filling):
    return type(filling) is tuple and len(filling) == n and all(plain(x) and x >= 0 for x in filling)


def places(n, first, size):
    return {(first + k) % n for k in range(size)}


def units(filling, first, size):
    return sum(filling[place] for place in places(len(filling), first, size))


def fit(rules, filling):
    for first, size, least, most in rules:
        found = units(filling, first, size)
        if found < least or (most is not None and found > most):
            return False
    return True


def reason_is_right(rules, reason):
    if type(reason) is not tuple or len(reason) != 2:
        return False
    for side in reason:
        if type(side) is not tuple or not all(plain(k) and k in range(len(rules)) for k in side):
            return False
        if any(side[k] > side[k + 1] for k in range(len(side) - 1)):
            return False
    return len(reason[0] + reason[1]) <= 24 and all(rules[k][3] is not None for k in reason[1])


def bound(n, rules, reason):
    if not reason_is_right(rules, reason):
        return None
    demand = 0
    cover = [0] * n
    for k in reason[0]:
        demand += rules[k][2]
        for place in places(n, rules[k][0], rules[k][1]):
            cover[place] += 1
    for k in reason[1]:
        demand -= rules[k][3]
        for place in places(n, rules[k][0], rules[k][1]):
            cover[place] -= 1
    c = max(cover)
    if c > 0:
        return ("least", max(0, ceil(Fraction(demand, c))))
    if demand > 0:
        return ("never",)
    return ("most", floor(Fraction(demand, c))) if c < 0 else ("none",)


def place_is_free(n, rules, place):
    if not plain(place) or place not in range(n):
        return False
    return all(most is None or place not in places(n, first, size) for first, size, least, most in rules)


def certificate_is_right(n, rules, value):
    if type(value) is not tuple or value == () or value[0] not in ("totals", "never"):
        return False
    if value[0] == "never":
        bounds = [bound(n, rules, reason) for reason in value[1:]]
        if len(bounds) == 1:
            return bounds[0] == ("never",)
        if len(bounds) != 2 or None in bounds:
            return False
        return bounds[0][0] == "least" and bounds[1][0] == "most" and bounds[0][1] > bounds[1][1]
    if len(value) != 3 or any(type(part) is not tuple or len(part) != 2 for part in value[1:]):
        return False
    (low, reason), (high, other) = value[1:]
    if not filling_is_right(n, low) or not fit(rules, low):
        return False
    if sum(low) == 0 and reason is not None:
        return False
    if sum(low) > 0 and bound(n, rules, reason) != ("least", sum(low)):
        return False
    if high is None:
        return place_is_free(n, rules, other)
    return filling_is_right(n, high) and fit(rules, high) and bound(n, rules, other) == ("most", sum(high))


def all_fillings(n, rules):
    """All fillings that fit with counts up to the greatest number in the rules.

    A count above it can be made that number: no least is missed by that, and no most exceeded.
    So the least total is among these, and so is the greatest one if there is one.
    """
    top = max([rule[2] for rule in rules] + [rule[3] or 0 for rule in rules] + [0])
    return [filling for filling in product(range(top + 1), repeat=n) if fit(rules, filling)]


def listed_totals(n, rules):
    totals = [sum(filling) for filling in all_fillings(n, rules)]
    if not totals:
        return None
    endless = any(place_is_free(n, rules, place) for place in range(n))
    return (min(totals), None if endless else max(totals))


def compositions(n, total):
    """All fillings for n with the total, in ascending order."""
    if n == 1:
        yield (total,)
        return
    for count in range(total + 1):
        for rest in compositions(n - 1, total - count):
            yield (count,) + rest


def listed_fillings(n, rules, total):
    """All fillings with the total that fit, in ascending order."""
    return [filling for filling in compositions(n, total) if fit(rules, filling)]


def differences(n, rules, total):
    """What the sums s(0), .., s(n) of the counts before each place must keep: (a, b, d) says s(b) - s(a) >= d."""
    yield from ((place, place + 1, 0) for place in range(n))
    yield from ((0, n, total), (n, 0, -total))
    for first, size, least, most in rules:
        end = first + size
        if end <= n:
            yield (first, end, least)
            if most is not None:
                yield (end, first, -most)
        else:
            # The other places have the rest of the total.
            yield (first, end - n, least - total)
            if most is not None:
                yield (end - n, first, total - most)


def can_fill(n, rules, total):
    """Whether a filling with the total fits: the sums are raised until all is kept, or it never ends."""
    sums = [0] * (n + 1)
    kept = list(differences(n, rules, total))
    for step in range(n + 2):
        before = list(sums)
        for a, b, difference in kept:
            sums[b] = max(sums[b], sums[a] + difference)
        if sums == before:
            return True
    return False


def counts_fixed(filling, many):
    """Rules that fix the first counts to those of the filling."""
    return tuple((place, 1, filling[place], filling[place]) for place in range(many))


def crosses(one, other):
    """Whether units that cross the borders, at most one each, lead from one filling to the other."""
    for crossing in (-1, 0, 1):
        # The crossing before place 0 is tried; the counts tell all others, back to that one.
        crossings = [crossing]
        for before, after in zip(one, other):
            crossings.append(crossings[-1] + before - after)
        if crossings[-1] == crossing and all(-1 <= units <= 1 for units in crossings):
            return True
    return False


def way_is_right(n, rules, one, other, value):
    if type(value) is not tuple or value == ():
        return False
    if not all(filling_is_right(n, filling) and fit(rules, filling) for filling in value):
        return False
    if value[0] != one or value[-1] != other:
        return False
    return all(crosses(value[k], value[k + 1]) for k in range(len(value) - 1))


def fewest_steps(fillings, start):
    """The number of steps from the start to each filling if all fillings on the way are among these."""
    found = {start: 0}
    front = [start]
    while front:
        reached = {filling for filling in fillings for last in front if filling not in found and crosses(last, filling)}
        for filling in reached:
            found[filling] = found[front[0]] + 1
        front = sorted(reached)
    return found


NUMBER = "(0|[1-9][0-9]*)"


def rule_from(n, word):
    found = fullmatch(f"{NUMBER}[+]{NUMBER}:{NUMBER}[.][.]{NUMBER}?", word)
    if found is None:
        return None
    rule = tuple(None if part is None else int(part) for part in found.groups())
    return rule if rule_is_right(n, rule) else None


def ring_from(value):
    """What parse_ring returns, or ("bad", index)."""
    if type(value) is not str:
        return ("bad", None)
    words = value.split(" ")
    if fullmatch("([1-9]|10|11|12):", words[0]) is None:
        return ("bad", 0)
    n = int(words[0][:-1])
    rules = [rule_from(n, word) for word in words[1:]]
    for index, rule in enumerate(rules):
        if rule is None or index == 16:
            return ("bad", index + 1)
    return (n, tuple(rules))


def filling_from(n, value):
    """What parse_filling returns, or ("bad", index)."""
    if type(value) is not str:
        return ("bad", None)
    words = value.split(" ")
    for index, word in enumerate(words):
        if fullmatch(NUMBER, word) is None or len(word) > 30 or index == n:
            return ("bad", index)
    return tuple(int(word) for word in words) if len(words) == n else ("bad", len(words))


def small_rings():
    """Small rings with all kinds of rules, few enough fillings to list."""
    random = Random(20)
    for n, top, rounds in ((1, 5, 60), (2, 4, 120), (3, 3, 200), (4, 2, 200), (5, 2, 80), (6, 1, 80)):
        for step in range(rounds):
            rules = []
            for index in range(random.randint(0, 7)):
                least = random.randint(0, top)
                most = random.choice([None, random.randint(0, top), random.randint(least, top), top])
                rules.append((random.randrange(n), random.randint(1, n), least, most))
            yield n, tuple(rules)


def near_rules(random, n, many, reach, slack):
    """Rules round a hidden filling, so that they bound each other closely."""
    return rules_round(random, [random.randint(0, reach // n) for place in range(n)], many, slack)


def rules_round(random, hidden, many, slack):
    """Rules that the hidden filling fits, most of them closely."""
    n = len(hidden)
    rules = []
    for index in range(many):
        first, size = random.randrange(n), random.randint(1, n)
        found = units(hidden, first, size)
        least = max(0, found - random.choice([0, 0, 1, random.randint(0, slack)]))
        most = min(LIMIT, found + random.choice([0, 0, 1, random.randint(0, slack)]))
        rules.append((first, size, least, random.choice([most, most, most, most, None])))
    return rules


def great_rings():
    """Rings of up to 12 places with up to 16 rules; the rules of every third contradict each other a little."""
    random = Random(21)
    for step in range(600):
        n = random.choice([1, 2, 3, 5, 7, 8, 11, 12, 12, 12])
        reach = random.choice([1, 20, 1000, LIMIT])
        rules = near_rules(random, n, random.choice([0, 1, 4, 8, 12, 15, 16]), reach, max(1, reach // 4))
        if rules and step % 3 == 0:
            at = random.randrange(len(rules))
            first, size, least, most = rules[at]
            rules[at] = (first, size, min(LIMIT, least + random.choice([1, 2, reach])), most)
        yield n, tuple(rules)


def close_rings():
    """Rings of up to 12 places with rules that a filling fits closely, and that filling."""
    random = Random(23)
    for step in range(150):
        n = random.choice([1, 2, 3, 5, 8, 11, 12, 12, 12])
        reach = random.choice([1, 3, 1000, 10 ** 7])
        hidden = tuple(random.choice([0, random.randint(0, reach), reach]) for place in range(n))
        slack = random.choice([1, max(1, reach // 4)])
        rules = rules_round(random, hidden, random.choice([1, 4, 8, 12, 16, 16]), slack)
        if step % 3 == 0:
            # Without a most at the last place, all greater totals are possible too.
            rules = [rule[:3] + (None if n - 1 in places(n, rule[0], rule[1]) else rule[3],) for rule in rules]
        yield n, tuple(rules), hidden


def wild_rings():
    """Rings of 12 places with 16 rules whose bounds have nothing to do with each other."""
    random = Random(22)
    for step in range(200):
        top = random.choice([1, 9, LIMIT])
        rules = []
        for index in range(16):
            least, most = random.randint(0, top), random.choice([None, random.randint(0, top), top])
            rules.append((random.randrange(12), random.randint(1, 12), least // random.choice([1, 2, 9]), most))
        yield 12, tuple(rules)


def rounding_rings():
    """Rings on which every window of a size has the same sum: only fractions would fit."""
    for n, size in ((3, 2), (5, 2), (5, 3), (7, 4), (11, 5), (11, 10), (12, 5), (12, 7), (12, 11)):
        for exact in (1, 2, 10 ** 6 + 1, LIMIT - 1, LIMIT):
            if n * exact % size != 0:
                yield n, tuple((first, size, exact, exact) for first in range(n))
