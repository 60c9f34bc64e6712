"""Promise [14]: the texts of rings and fillings, there and back."""

import unittest
from random import Random

from ringwindows.errors import BadText, RingError
from ringwindows.texts import filling_text, parse_filling, parse_ring, ring_text
from tests import oracle
from tests.oracle import JUNK, LIMIT
from tests.tools import promptly, same

NO_TEXTS = [value for value in JUNK if type(value) is not str] + [5, 3.5, b"3:", ("3:",), ["3:"], {"3:": "3:"}]


def spoiled(random, text):
    """Returns the text with one or two characters replaced, removed or added."""
    for change in range(random.randint(1, 2)):
        at = random.randint(0, len(text))
        text = text[:at] + random.choice(["", *"0199 :.+-x\n"]) + text[at + random.choice([0, 1, 1]):]
    return text


class Parsed(unittest.TestCase):
    """What the tests of both directions share."""

    def bad(self, index, function, *arguments):
        with self.assertRaises(BadText, msg=arguments) as caught:
            promptly(function, *arguments)
        self.assertTrue(same(caught.exception.index, index), (caught.exception.index, index, arguments))
        self.assertIsInstance(caught.exception, RingError)

    def right(self, expected, function, *arguments):
        """Checks what is returned, or, if ("bad", index) is expected, the error."""
        if expected[0] == "bad":
            self.bad(expected[1], function, *arguments)
        else:
            self.assertTrue(same(promptly(function, *arguments), expected), arguments)


class Rings(Parsed):
    def test_examples(self):
        self.assertEqual(ring_text(3, ((0, 2, 1, 2), (2, 1, 1, None))), "3: 0+2:1..2 2+1:1..")
        self.assertEqual(ring_text(3, ()), "3:")
        self.bad(2, parse_ring, "3: 0+2:1..2 3+1:1..")

    def test_every_ring_there_and_back(self):
        rings = [oracle.small_rings(), oracle.great_rings(), oracle.wild_rings()]
        rings = [ring for some in rings for ring in some] + [(n, ()) for n in range(1, 13)]
        for n, rules in rings:
            text = ring_text(n, rules)
            self.assertEqual(parse_ring(text), (n, rules))
            self.assertEqual(oracle.ring_from(text), (n, rules))
            self.assertEqual(text.split(" ")[0], f"{n}:")

    def test_every_rule_there_and_back(self):
        for n in (1, 2, 9, 10, 11, 12):
            for first in range(n):
                for size in range(1, n + 1):
                    for least, most in ((0, None), (0, 0), (7, 3), (LIMIT, LIMIT), (10, None), (0, LIMIT)):
                        rule = (first, size, least, most)
                        text = f"{n}: {first}+{size}:{least}.." + ("" if most is None else str(most))
                        self.assertEqual(ring_text(n, (rule,)), text)
                        self.assertTrue(same(parse_ring(text), (n, (rule,))))

    def test_no_text(self):
        for value in NO_TEXTS:
            self.bad(None, parse_ring, value)

    def test_first_word(self):
        for n in range(1, 13):
            self.right((n, ()), parse_ring, f"{n}:")
        for text in (
            "", " ", ":", "0:", "13:", "100:", "03:", "003:", "-3:", "-0:", "+3:", "3", "3::", "x:",
            "3 :", " 3:", "  3:", "3.:", "3:\n", "\n3:", "3\n:", "3_0:", "1_2:", "3:0+1:0..", "three:", "0x3:", "3.0:",
            "3;", "(3):", "1" * 31 + ":", "1" * 2000, "1" * 1999 + ":", "0" * 30 + "3:", "\u0663:",
            "\u00b3:", "1\u00b2:",
        ):
            self.bad(0, parse_ring, text)
            # The first word is looked at before all others.
            self.bad(0, parse_ring, text + " x")

    def test_spaces(self):
        self.bad(1, parse_ring, "3: ")
        self.bad(1, parse_ring, "3:  0+1:0..")
        self.bad(2, parse_ring, "3: 0+1:0..  0+1:0..")
        self.bad(2, parse_ring, "3: 0+1:0.. ")
        self.bad(2, parse_ring, "3: 0+1:0..  ")
        self.bad(0, parse_ring, " 3: 0+1:0..")
        self.bad(1, parse_ring, "3:   ")
        self.bad(1, parse_ring, "3: 0 +1:0..")
        self.bad(1, parse_ring, "3: 0+1:0..\t")
        self.bad(1, parse_ring, "3: 0+1:0..\n")
        self.bad(1, parse_ring, "3: 0+1:0..\n0+1:0..")
        self.bad(1, parse_ring, "3: \n0+1:0..")

    def test_words_that_are_no_rules(self):
        for word in (
            "", "x", "0", "0+", "0+1", "0+1:", "0+1:0", "0+1:0.", "0+1:0...", "0+1:0...5", "0+1:0..5.", "0+1:0..5..",
            "0+1:0..5..6", "0+1:..", "0+1:..5", "+1:0..5", "0+:0..5", "0:1+0..5", "0+1:0:5", "0+1+0..5", "0-1:0..5",
            "0++1:0..5", "0+1::0..5", "0 1:0..5", "0+1:0..none", "0+1:0..None", "0+1:0..x", "0+1:x..5", "x+1:0..5",
            "0+x:0..5", "00+1:0..5", "0+01:0..5", "0+1:00..5", "0+1:01..5", "0+1:0..05", "0+1:0..00", "-0+1:0..5",
            "0+-1:0..5", "0+1:-0..5", "0+1:0..-0", "0+1:-1..5", "0+1:0..-5", "-1+1:0..5", "+0+1:0..5", "0+1:+0..5",
            "0+1:0..+5", "3+1:0..5", "0+0:0..5", "0+4:0..5", "12+1:0..5", "0+1:1000000001..", "0+1:0..1000000001",
            "0+1:0.." + "9" * 30, "0+1:0.." + "9" * 31, "0+1:" + "9" * 31 + "..", "0+1:0.." + "0" * 31,
            "9" * 31 + "+1:0..",
            "0+1:0..1_0", "0+1:0..5\n", "0+1:0..\n", "\n0+1:0..5", "0+1:0..5,", "(0,1,0,5)", "0+1:0,5", "3:",
            "0+1:0..\u0665", "0+1:0..\u00b2", "0+1:0..1e3", "0+1:0..1.0", "0+1:0..0x1",
        ):
            with self.subTest(word=word):
                self.assertIsNone(oracle.rule_from(3, word))
                self.bad(1, parse_ring, "3: " + word)
                self.bad(2, parse_ring, "3: 0+1:0.. " + word)
                self.bad(1, parse_ring, "3: " + word + " x")

    def test_a_most_left_out(self):
        self.right((3, ((0, 1, 0, None),)), parse_ring, "3: 0+1:0..")
        self.right((3, ((0, 1, 0, 0),)), parse_ring, "3: 0+1:0..0")
        self.right((3, ((0, 1, 5, None), (2, 3, 0, 1))), parse_ring, "3: 0+1:5.. 2+3:0..1")

    def test_numbers_at_the_ends_of_their_range(self):
        self.right((12, ((11, 12, LIMIT, LIMIT),)), parse_ring, "12: 11+12:1000000000..1000000000")
        self.bad(1, parse_ring, "12: 12+12:0..")
        self.bad(1, parse_ring, "12: 11+13:0..")
        self.bad(1, parse_ring, "12: 0+1:1000000001..")
        self.bad(1, parse_ring, "12: 0+1:0..1000000001")
        self.right((1, ((0, 1, 9, 3),)), parse_ring, "1: 0+1:9..3")

    def test_sixteen_and_seventeen_rules(self):
        self.right((3, ((0, 1, 0, 5),) * 16), parse_ring, "3:" + " 0+1:0..5" * 16)
        self.bad(17, parse_ring, "3:" + " 0+1:0..5" * 17)
        self.bad(17, parse_ring, "3:" + " 0+1:0..5" * 18)
        self.bad(17, parse_ring, "3:" + " 0+1:0..5" * 16 + " x")
        self.bad(17, parse_ring, "3:" + " 0+1:0..5" * 16 + " ")
        self.bad(16, parse_ring, "3:" + " 0+1:0..5" * 15 + " x 0+1:0..5")

    def test_first_wrong_word(self):
        self.bad(3, parse_ring, "3: 0+1:0.. 0+1:0.. x 0+1:0.. y")
        self.bad(1, parse_ring, "2: 2+1:0.. 0+3:0..")

    def test_characters_replaced_removed_and_added(self):
        random = Random(40)
        right = wrong = 0
        for step in range(6000):
            rules = oracle.near_rules(random, random.choice([1, 3, 12]), random.randint(0, 4), 20, 5)
            text = spoiled(random, ring_text(12, tuple(rules)))
            expected = oracle.ring_from(text)
            self.right(expected, parse_ring, text)
            right, wrong = right + (expected[0] != "bad"), wrong + (expected[0] == "bad")
        self.assertGreater(min(right, wrong), 500)


class Fillings(Parsed):
    def test_examples(self):
        self.assertEqual(filling_text((0, 12)), "0 12")
        self.bad(2, parse_filling, 3, "1 0")

    def test_there_and_back(self):
        random = Random(41)
        for n in range(1, 13):
            for reach in (0, 1, 10, 10 ** 9, 10 ** 30 - 1):
                filling = tuple(random.choice([0, random.randint(0, reach), reach]) for place in range(n))
                text = filling_text(filling)
                self.assertEqual(text.split(" "), [str(count) for count in filling])
                self.right(filling, parse_filling, n, text)

    def test_no_text(self):
        for value in NO_TEXTS + [(0, 1, 2), [0, 1, 2]]:
            self.bad(None, parse_filling, 3, value)
            self.bad(None, parse_filling, 1, value)

    def test_words_too_many_and_too_few(self):
        for n in (1, 2, 12):
            for many in range(1, 15):
                text = " ".join(["7"] * many)
                if many == n:
                    self.right((7,) * n, parse_filling, n, text)
                else:
                    self.bad(min(n, many), parse_filling, n, text)
        self.bad(0, parse_filling, 2, "x")
        self.bad(1, parse_filling, 3, "1 x")
        self.bad(0, parse_filling, 2, "x 1 1")
        self.bad(2, parse_filling, 2, "1 1 x")
        self.bad(2, parse_filling, 2, "1 1 1 x")

    def test_spaces(self):
        for n in (1, 2, 3):
            self.bad(0, parse_filling, n, "")
            self.bad(0, parse_filling, n, " ")
            self.bad(0, parse_filling, n, " 1 2")
            self.bad(1, parse_filling, n, "1 ")
            self.bad(1, parse_filling, n, "1  2")
        self.bad(2, parse_filling, 2, "1 2 ")
        self.bad(2, parse_filling, 3, "1 2 ")
        self.bad(2, parse_filling, 3, "1 2  ")
        self.bad(2, parse_filling, 3, "1 2  3")
        self.bad(0, parse_filling, 2, "1\n2")
        self.bad(1, parse_filling, 2, "1 2\n")

    def test_words_that_are_no_numbers(self):
        for word in (
            "00", "01", "007", "-0", "-1", "+1", "+0", "x", "1x", "1.0", "1e3", "1_0", "0x1", "1\n", "\n1", "None",
            "True", "--1", "1,", "\u0661", "\u00b2", "9" * 31, "1" + "0" * 30, "0" * 30, "0" * 31, "9" * 2000,
            "9" * 5000, "-" + "9" * 29,
        ):
            with self.subTest(word=word):
                self.bad(0, parse_filling, 1, word)
                self.bad(1, parse_filling, 3, "1 " + word + " 2")
                self.bad(2, parse_filling, 3, "1 0 " + word)

    def test_thirty_digits(self):
        self.right((10 ** 30 - 1, 10 ** 29), parse_filling, 2, "9" * 30 + " 1" + "0" * 29)
        self.bad(1, parse_filling, 2, "9" * 30 + " 1" + "0" * 30)

    def test_characters_replaced_removed_and_added(self):
        random = Random(42)
        right = wrong = 0
        for step in range(6000):
            n = random.choice([1, 2, 3, 12])
            text = spoiled(random, filling_text(tuple(random.randint(0, 101) for place in range(n))))
            expected = oracle.filling_from(n, text)
            self.right(expected, parse_filling, n, text)
            right, wrong = right + (expected[0] != "bad"), wrong + (expected[0] == "bad")
        self.assertGreater(min(right, wrong), 500)


if __name__ == "__main__":
    unittest.main()
