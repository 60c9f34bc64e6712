"""Promise [15]: the shell, with every command, every error, and every line that is no command."""

import unittest
from random import Random
from re import fullmatch

from ringwindows.desks import Desk, LogDesk
from ringwindows.shells import Shell
from ringwindows.texts import filling_text, ring_text
from tests import oracle
from tests.checks import FREE, KINDS
from tests.oracle import LIMIT, TRIANGLE
from tests.tools import outcome, promptly, same, view

UNKNOWN = "unknown command"
NUMBER = "(0|-?[1-9][0-9]{0,12})"
COMMANDS = (
    f"move {NUMBER} {NUMBER}", f"fill {NUMBER}", f"drop {NUMBER}", "undo", "filling", "ring", "totals",
    f"range {NUMBER} {NUMBER}",
)


def called(desk, name, values):
    """What a command is answered with, by a call of the method."""
    if name == "filling":
        return " ".join(str(count) for count in desk.filling)
    if name == "ring":
        return ring_text(len(desk.filling), desk.rules)
    method = {"range": "range_of", "totals": "totals"}.get(name, name)
    found = ("returns", desk.totals) if name == "totals" else outcome(getattr(desk, method), *values)
    if found[0] == "raises":
        return f"error {found[1]}"
    if name in ("range", "totals"):
        return " ".join("none" if number is None else str(number) for number in found[1])
    return f"ok {found[1]}"


def expected_answer(desk, line):
    """What a line is answered with; an edit is done on the desk."""
    if line.startswith("add ") and line.count(" ") == 1:
        rule = oracle.rule_from(len(desk.filling), line[4:])
        return UNKNOWN if rule is None else called(desk, "add", [rule])
    for command in COMMANDS:
        found = fullmatch(command, line)
        if found is not None:
            return called(desk, line.split(" ")[0], [int(number) for number in found.groups()])
    return UNKNOWN


class Checks(unittest.TestCase):
    def unknown(self, desk, line):
        """Checks that the line is no command, and that it changes nothing."""
        before = view(desk)
        self.assertEqual(promptly(Shell(desk).execute, line), UNKNOWN, repr(line))
        self.assertTrue(same(view(desk), before), line)

    def answers(self, desk, *pairs):
        """Checks lines and their answers; what is refused changes nothing."""
        shell = Shell(desk)
        for line, answer in pairs:
            before = view(desk)
            self.assertEqual(promptly(shell.execute, line), answer, line)
            if not answer.startswith("ok"):
                self.assertTrue(same(view(desk), before), line)


class Commands(Checks):
    def test_examples(self):
        self.assertEqual(Shell(Desk(2, ())).execute("filling"), "0 0")
        shell = Shell(Desk(3, TRIANGLE))
        self.assertEqual(
            [shell.execute("totals"), shell.execute("fill 3"), shell.execute("filling"), shell.execute("move 1 1"),
             shell.execute("add 0+1:2.."), shell.execute("drop 05")],
            ["2 3", "ok 1", "1 1 1", "error Broken", "error Broken", "unknown command"])

    def test_this_very_desk(self):
        for some in (Desk, LogDesk):
            desk = some(3, TRIANGLE)
            shell = Shell(desk)
            self.assertEqual(shell.execute("fill 3"), "ok 1")
            self.assertEqual((desk.filling, len(desk)), ((1, 1, 1), 1))
            desk.undo()
            self.assertEqual(shell.execute("filling"), "0 1 1")

    def test_edits(self):
        desk = Desk(3, TRIANGLE)
        self.answers(
            desk, ("move 1 -1", "ok 1"), ("filling", "1 0 1"), ("move 0 0", "ok 2"), ("fill 3", "ok 3"),
            ("drop 1", "ok 4"), ("add 0+3:3..3", "ok 5"), ("add 2+1:0..", "ok 6"), ("undo", "ok 5"), ("undo", "ok 4"),
            ("ring", "3: 0+2:1..2 2+2:1..2"))
        self.assertEqual(desk.edits(), (("move", 1, -1), ("move", 0, 0), ("fill", 3), ("drop", 1)))
        desk = Desk(2, ())
        self.answers(desk, ("add 1+2:0..1000000000", "ok 1"), ("add 0+1:0..0", "ok 2"), ("add 0+1:0..", "ok 3"))
        self.assertEqual(desk.rules, ((1, 2, 0, LIMIT), (0, 1, 0, 0), FREE))

    def test_filling_and_ring(self):
        for n, rules, hidden in list(oracle.close_rings())[::4]:
            desk = Desk(n, rules)
            desk.put(hidden)
            self.answers(desk, ("filling", filling_text(hidden)), ("ring", ring_text(n, rules)))
        self.answers(Desk(12, ()), ("ring", "12:"), ("filling", "0 0 0 0 0 0 0 0 0 0 0 0"))
        desk = Desk(1, ())
        desk.put((10 ** 25,))
        self.answers(desk, ("filling", "1" + "0" * 25), ("fill 9999999999999", "ok 2"), ("filling", "9999999999999"))

    def test_totals(self):
        self.answers(Desk(3, TRIANGLE), ("totals", "2 3"))
        self.answers(Desk(3, ((0, 2, 1, None),)), ("totals", "1 none"))
        self.answers(Desk(1, ()), ("totals", "0 none"))
        self.answers(Desk(1, ((0, 1, LIMIT, LIMIT),)), ("totals", "1000000000 1000000000"))
        desk = Desk(2, ())
        self.answers(desk, ("add 0+2:0..0", "ok 1"), ("totals", "0 0"), ("undo", "ok 0"), ("totals", "0 none"))

    def test_range(self):
        desk = Desk(3, TRIANGLE)
        self.answers(
            desk, ("range 0 1", "0 1"), ("range 2 2", "1 2"), ("range 1 3", "2 2"), ("fill 3", "ok 1"),
            ("range 0 1", "1 1"), ("range 2 3", "3 3"))

    def test_every_error_by_its_name(self):
        desk = Desk(3, TRIANGLE)
        self.answers(
            desk, ("undo", "error NothingToUndo"), ("move 3 1", "error NoPlace"), ("move -1 1", "error NoPlace"),
            ("move 9999999999999 0", "error NoPlace"), ("move 0 1000000001", "error BadUnits"),
            ("move 0 -1000000001", "error BadUnits"), ("move 0 -9999999999999", "error BadUnits"),
            ("move 3 9999999999999", "error NoPlace"), ("move 1 1", "error TooFew"),
            ("move 1 -1000000000", "error TooFew"), ("move 1 1000000000", "error TooFew"), ("move 0 1", "ok 1"),
            ("undo", "ok 0"), ("fill 4", "error NoTotal"),
            ("fill 1", "error NoTotal"), ("fill -1", "error NoTotal"), ("fill 9999999999999", "error NoTotal"),
            ("drop 3", "error NoRule"), ("drop -1", "error NoRule"), ("drop 9999999999999", "error NoRule"),
            ("add 0+1:1..", "error Broken"), ("add 1+1:0..0", "error Broken"), ("range 3 1", "error NoPlace"),
            ("range -1 0", "error NoPlace"), ("range 0 0", "error BadSize"), ("range 0 4", "error BadSize"),
            ("range 0 -1", "error BadSize"), ("range 2 9999999999999", "error BadSize"), ("fill 3", "ok 1"),
            ("move 1 1", "error Broken"), ("move 2 -1", "error Broken"),
        )

    def test_too_many_edits_and_rules(self):
        desk = Desk(2, (FREE,) * 15)
        self.answers(
            desk, ("add 0+1:0..", "ok 1"), ("add 0+1:0..", "error TooManyRules"), ("add 0+1:1..", "error TooManyRules"))
        for step in range(59):
            self.assertEqual(Shell(desk).execute("move 1 0"), f"ok {step + 2}")
        for line in ("move 1 0", "move 9 0", "fill 1", "fill -1", "add 0+1:0..", "add 0+1:1..", "drop 0", "drop 99"):
            self.answers(desk, (line, "error TooManyEdits"))
        self.answers(desk, ("undo", "ok 59"), ("fill 1", "ok 60"), ("range 0 1", "0 1"), ("totals", "0 none"))

    def test_while_a_watch_runs(self):
        answers = []
        lines = (
            "move 1 0", "move 9 9", "fill 3", "fill -1", "add 0+1:0..", "add 0+1:9..", "drop 0", "drop 99", "undo",
            "filling", "ring", "totals", "range 0 1", "range 0 0", "add 3+1:0..", "undo 1", "x", "",
        )
        desk = LogDesk(3, TRIANGLE)
        shell = Shell(desk)
        desk.attempt([("fill", 3), ("drop", 0)], watch=lambda watched: answers.append([*map(shell.execute, lines)]))
        busy = ["error Busy"] * 9
        self.assertEqual(answers[0], busy + [
            "1 1 1", "3: 0+2:1..2 1+2:1..2 2+2:1..2", "2 3", "1 1", "error BadSize"] + [UNKNOWN] * 4)
        self.assertEqual(answers[1], busy + [
            "1 1 1", "3: 1+2:1..2 2+2:1..2", "1 4", "1 2", "error BadSize"] + [UNKNOWN] * 4)
        self.assertEqual((len(desk), desk.lines), (2, ("fill", "drop")))
        self.assertEqual(shell.execute("undo"), "ok 1")

    def test_two_shells_on_one_desk(self):
        desk = LogDesk(3, TRIANGLE)
        one, other = Shell(desk), Shell(desk)
        self.assertEqual(
            [one.execute("fill 3"), other.execute("filling"), other.execute("drop 0"), one.execute("ring"),
             one.execute("undo"), other.execute("undo"), one.execute("undo")],
            ["ok 1", "1 1 1", "ok 2", "3: 1+2:1..2 2+2:1..2", "ok 1", "ok 0", "error NothingToUndo"])
        self.assertEqual(desk.lines, ("fill", "drop", "undo", "undo"))

    def test_shells_on_two_desks(self):
        one, other = Shell(Desk(2, ())), Shell(Desk(2, ()))
        self.assertEqual([one.execute("fill 3"), other.execute("filling")], ["ok 1", "0 0"])

    def test_it_does_not_write_to_the_log_itself(self):
        desk = LogDesk(3, TRIANGLE)
        for line in ("filling", "ring", "totals", "range 0 1", "x", "fill 9", "undo"):
            Shell(desk).execute(line)
        self.assertEqual(desk.lines, ())


class Unknown(Checks):
    def test_no_text(self):
        desk = Desk(3, TRIANGLE)
        others = (0, 3, ("fill", 3), ["fill", 3], ("undo",), ["filling"], {"undo": 1}, b"undo", ("fill 3",))
        for value in KINDS + others:
            if type(value) is not str:
                self.unknown(desk, value)

    def test_words_too_few_or_too_many(self):
        desk = Desk(3, TRIANGLE)
        desk.fill(3)
        for line in (
            "", "move", "move 1", "move 1 0 0", "move 1 0 x", "fill", "fill 3 3", "drop", "drop 0 0", "undo 1",
            "undo 0", "undo undo", "add", "add 0+1:0.. 0+1:0..", "add 0+1:0.. 1", "filling 1", "filling 0", "ring 1",
            "ring 3:", "totals 1", "totals 2 3", "range", "range 0", "range 0 1 2", "range 0 1 0", "fill 3 undo",
        ):
            self.unknown(desk, line)

    def test_spaces(self):
        desk = Desk(3, TRIANGLE)
        desk.fill(3)
        for line in ("move 1 0", "fill 2", "drop 0", "undo", "add 0+1:0..", "filling", "ring", "totals", "range 0 1"):
            self.assertNotEqual(Shell(desk).execute(line), UNKNOWN)
            for spoiled in (
                " " + line, line + " ", " " + line + " ", line.replace(" ", "  "), line + "\n", "\n" + line,
                line.replace(" ", "\n"), line.replace(" ", "\t"), line + "\t", line.replace(" ", " \n"),
            ):
                if spoiled != line:
                    self.unknown(desk, spoiled)
        self.unknown(desk, " ")
        self.unknown(desk, "  ")
        self.unknown(desk, "\n")

    def test_other_letters_and_words(self):
        desk = Desk(3, TRIANGLE)
        desk.fill(3)
        for line in (
            "Fill 2", "FILL 2", "fil 2", "fills 2", "Undo", "UNDO", "Filling", "Ring", "Totals", "rang 0 1",
            "Range 0 1", "put 1 1 0", "put (1,1,0)", "attempt", "state", "state 0", "edits", "read 3:", "note x",
            "note", "len", "str", "total", "rules", "lines", "range_of 0 1", "version", "help", "x", "0", "3:",
            "fill,2", "fill=2", "fill(2)", "x" * 2000, "fill " + "x" * 1990, "undo;", "__len__", "MOST_EDITS",
            "error", "ok 1", "unknown command",
        ):
            self.unknown(desk, line)

    def test_numbers(self):
        desk = Desk(3, TRIANGLE)
        desk.fill(3)
        for word in (
            "", "00", "01", "03", "-0", "-00", "-01", "+1", "+0", "--1", "-", "+", "-+1", "1-", "1.0", "1.", ".1",
            "1e1", "1_0", "0x1", "x", "1x", "None", "none", "True", "\u0663", "\u00b2", "-\u0663", "\u22121", "1\n",
            "\n1", "10000000000000", "-10000000000000", "99999999999999", "00000000000001", "9" * 30, "9" * 31,
            "9" * 1990, "-" + "9" * 1990, "0" * 14, "0" * 13,
        ):
            for line in (f"fill {word}", f"drop {word}", f"move {word} 0", f"move 1 {word}", f"range {word} 1",
                         f"range 0 {word}"):
                self.unknown(desk, line)

    def test_thirteen_and_fourteen_digits(self):
        desk = Desk(1, ())
        self.answers(
            desk, ("fill 9999999999999", "ok 1"), ("fill 1000000000000", "ok 2"), ("fill 10000000000000", UNKNOWN),
            ("fill -9999999999999", "error NoTotal"), ("fill -10000000000000", UNKNOWN),
            ("move 0 -9999999999999", "error BadUnits"), ("move 0 -10000000000000", UNKNOWN),
            ("drop -9999999999999", "error NoRule"), ("range -9999999999999 1", "error NoPlace"))

    def test_texts_that_are_not_those_of_a_rule(self):
        desk = Desk(3, TRIANGLE)
        for word in (
            "", "x", "0", "0+1", "0+1:", "0+1:0", "0+1:0.", "0+1:0...", "0+1:..", "0+1:..5", "3+1:0..", "0+0:0..",
            "0+4:0..", "12+1:0..", "00+1:0..", "0+01:0..", "0+1:00..", "0+1:0..05", "-0+1:0..", "0+1:-1..",
            "0+1:0..-1", "+0+1:0..", "0+1:+0..", "0+1:0..+5", "0+1:1000000001..", "0+1:0..1000000001", "0+1:0..none",
            "0+1:0..None", "0+1:0..\n", "\n0+1:0..", "(0,1,0,5)", "0,1,0,5", "3:", "0+1:0..5.", "0+1:0..9" + "9" * 40,
            "9" * 1990, "0-1:0..", "0+1;0..", "0+1:0..\u0665",
        ):
            self.assertIsNone(oracle.rule_from(3, word))
            self.unknown(desk, f"add {word}")
        # What is a rule for a greater ring is none for a smaller one.
        self.unknown(Desk(1, ()), "add 0+2:0..")
        self.unknown(Desk(11, ()), "add 11+1:0..")
        self.answers(Desk(12, ()), ("add 11+12:0..", "ok 1"))
        self.unknown(desk, "add 0 1 0 5")
        self.unknown(desk, "add 5")

    def test_not_refused_by_the_desk_first(self):
        desk = Desk(3, TRIANGLE)
        for step in range(60):
            desk.fill(2)
        for line in ("add 3+1:0..", "fill 05", "drop -0", "move 1", "undo 1", "range 0"):
            self.unknown(desk, line)


class Lines(Checks):
    def test_lines_with_characters_replaced_removed_and_added(self):
        random = Random(70)
        seen = {}
        for session in range(120):
            n = random.choice([1, 2, 3, 12])
            desk, other = LogDesk(n, ()), LogDesk(n, ())
            shell = Shell(desk)
            for step in range(50):
                line = random.choice([
                    f"move {random.randint(-1, n)} {random.randint(-3, 3)}", f"fill {random.randint(-1, 12)}",
                    f"drop {random.randint(-1, 3)}", "undo", "filling", "ring", "totals",
                    f"range {random.randint(-1, n)} {random.randint(-1, n + 1)}",
                    f"add {random.randint(0, n)}+{random.randint(0, n + 1)}:{random.randint(0, 3)}..",
                    f"add {random.randint(0, n - 1)}+{random.randint(1, n)}:0..{random.randint(0, 12)}",
                ])
                if random.random() < 0.3:
                    at = random.randint(0, len(line))
                    line = line[:at] + random.choice(["", *" 0199-+:.x\n"]) + line[at + random.choice([0, 0, 1, 1]):]
                answer = promptly(shell.execute, line)
                self.assertTrue(same(answer, expected_answer(other, line)), repr(line))
                seen[answer.split(" ")[0]] = seen.get(answer.split(" ")[0], 0) + 1
            self.assertTrue(same(view(desk), view(other)))
            self.assertEqual(desk.lines, other.lines)
        self.assertGreater(min(seen["ok"], seen["error"], seen["unknown"]), 500, seen)


if __name__ == "__main__":
    unittest.main()
