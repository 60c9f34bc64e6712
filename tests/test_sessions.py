"""[2] (g), and section 6: long sessions with right and wrong calls, compared with a plain model of a desk."""

import unittest
from random import Random

from ringwindows.desks import Desk, LogDesk
from tests import model, oracle
from tests.checks import KINDS
from tests.model import Model
from tests.oracle import LIMIT
from tests.tools import outcome, promptly, same, view

# Values that are wrong in most places.
ODD = KINDS + (0, 1, 2, 5, LIMIT, LIMIT + 1, 10 ** 25, 10 ** 25 + 1, (0, 1, 0, 5), [0, 1, 0, 5], (1, 2), [("fill", 3)])


def small_rules(random, n, many):
    """Rules that the empty filling fits, or one with few units."""
    rules = []
    while len(rules) < many:
        least = random.choice([0, 0, 1, 2])
        rules.append((random.randrange(n), random.randint(1, n), least, random.choice([None, 2, 3, 5])))
    return tuple(rules)


def any_edit(random, n, rules, filling):
    """An edit that is often right, sometimes wrong, and sometimes odd."""
    name = random.choice(["move", "move", "fill", "put", "add", "drop"])
    values = {
        "move": [random.randrange(-1, n + 1), random.choice([0, 1, 1, -1, -1, 2, -2, 3])],
        "fill": [random.randrange(0, 8)],
        "put": [tuple(max(0, count + random.choice([0, 0, 0, 1, -1])) for count in filling)],
        "add": [small_rules(random, n, 1)[0]],
        "drop": [random.randrange(-1, len(rules) + 1)],
    }[name]
    if random.random() < 0.12:
        values[random.randrange(len(values))] = random.choice(ODD)
    return (name, *values)


def any_batch(random, n, rules, filling):
    """A batch of a few edits, sometimes with an item that is none, sometimes no batch at all."""
    if random.random() < 0.05:
        return random.choice([value for value in ODD if value not in ([], (), [("fill", 3)])])
    batch = [any_edit(random, n, rules, filling) for step in range(random.choice([0, 1, 2, 2, 3, 20, 21]))]
    if batch and random.random() < 0.1:
        batch[random.randrange(len(batch))] = random.choice(ODD)
    return random.choice([list, tuple])(batch)


class Sessions(unittest.TestCase):
    def compare(self, desk, other, told):
        self.assertTrue(same(view(desk), other.view()), (told, view(desk), other.view()))
        if isinstance(desk, LogDesk):
            self.assertEqual(desk.lines, tuple(other.noted[-8:]), told)

    def step(self, random, desk, other):
        """Makes one call on both, and returns what it led to."""
        kind = random.choice(["edit"] * 6 + ["undo", "undo", "attempt"])
        if kind == "edit":
            name, *values = any_edit(random, desk.n, desk.rules, desk.filling)
            found, expected = outcome(promptly, getattr(desk, name), *values), other.edit(name, *values)
            told = (name, *values)
        elif kind == "undo":
            found, expected, told = outcome(promptly, desk.undo), other.undo(), kind
        else:
            told = any_batch(random, desk.n, desk.rules, desk.filling)
            found, expected = outcome(promptly, desk.attempt, told), other.attempt(told)
        self.assertTrue(same(found, expected), (told, found, expected))
        self.compare(desk, other, told)
        return (kind, found[1] if found[0] == "raises" else "done")

    def made(self, random):
        """Returns a desk and the model of it."""
        n = random.choice([1, 2, 3, 3, 4])
        rules = small_rules(random, n, random.choice([0, 1, 2, 3]))
        if not any(oracle.can_fill(n, rules, total) for total in range(20)):
            return self.made(random)
        return random.choice([Desk, LogDesk])(n, rules), Model(n, rules)

    def test_as_the_model_says(self):
        random = Random(60)
        led = {}
        for session in range(100):
            desk, other = self.made(random)
            self.compare(desk, other, "new")
            for step in range(40):
                kind = self.step(random, desk, other)
                led[kind] = led.get(kind, 0) + 1
        for name in ("done", "NoPlace", "BadUnits", "TooFew", "Broken", "NoTotal", "BadFilling", "BadRule", "NoRule"):
            self.assertGreater(led[("edit", name)], 9, led)
        for name in ("done", "BadEdits", "BadEdit", "Rejected"):
            self.assertGreater(led[("attempt", name)], 5, led)
        self.assertGreater(min(led[("undo", "done")], led[("undo", "NothingToUndo")]), 20, led)

    def test_up_to_sixty_edits(self):
        random = Random(61)
        edits = [("move", 1, 0), ("fill", 2), ("add", (0, 1, 0, None)), ("drop", 0), ("put", (1, 1))]
        refused = 0
        for session in range(4):
            desk, other = LogDesk(2, ()), Model(2, ())
            for step in range(150):
                edit = random.choice(edits)
                found, expected = outcome(getattr(desk, edit[0]), *edit[1:]), other.edit(*edit)
                self.assertEqual(found, expected)
                refused += found == ("raises", "TooManyEdits", {})
                if len(desk) == 60 and random.random() < 0.2:
                    self.assertEqual(outcome(desk.undo), other.undo())
            self.compare(desk, other, "end")
        self.assertGreater(refused, 50)

    def test_ranges_of_every_version(self):
        random = Random(62)
        for session in range(12):
            desk, other = self.made(random)
            for step in range(10):
                self.step(random, desk, other)
            for version in range(len(desk) + 1):
                rules, filling = other.state(version)
                for first in range(desk.n):
                    size = random.randint(1, desk.n)
                    expected = model.window(desk.n, rules, sum(filling), first, size)
                    self.assertEqual(desk.range_of(first, size, version=version), expected)

    def test_answers_as_a_new_desk_with_the_same_rules_and_filling(self):
        random = Random(63)
        for session in range(40):
            old, other = self.made(random)
            for step in range(random.choice([1, 5, 30])):
                self.step(random, old, other)
            while len(old) > 50:
                old.undo()
            new = Desk(old.n, old.rules)
            new.put(old.filling)
            self.assertTrue(old == new and new == old)
            self.assertEqual((old.total, old.totals, old.state()), (new.total, new.totals, new.state()))
            for first in range(old.n):
                self.assertEqual(old.range_of(first, old.n), new.range_of(first, old.n))
                self.assertEqual(old.range_of(first, 1), new.range_of(first, 1))
            for step in range(9):
                name, *values = any_edit(random, old.n, old.rules, old.filling)
                found, expected = outcome(getattr(old, name), *values), outcome(getattr(new, name), *values)
                if found[0] == "returns":
                    self.assertEqual(expected[0], "returns")
                    self.assertEqual(found[1] - len(old), expected[1] - len(new))
                else:
                    self.assertTrue(same(found, expected), (name, values))
                self.assertTrue(old == new)
                self.assertEqual(old.totals, new.totals)


if __name__ == "__main__":
    unittest.main()
