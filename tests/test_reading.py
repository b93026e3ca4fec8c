"""Which lines `read` refuses, by which class and which number."""

import random
import unittest

from helpers import refusal
from loopmover.errors import BadLine, TooDeep
from loopmover.notes import read, told

BLOCKS = ("when", "loop", "again")
NO_NAMES = (
    "", "abcdefg", "aaaaaaaaaaaa", "say", "when", "loop", "again", "end", "A", "aB", "Say", "a1", "1a", "a_b", "_",
    "a-b", "a.b", "\u00e9", "a\u00df", "\u03b1", "\u00aa", "`", "{", "a\x00", "a\n", "\na", "a\t", "+", "=", "-a",
)
NO_NUMBERS = (
    "00", "01", "007", "000000", "0000001", "1000000", "9999999", "10000000", "-1", "-0", "+1", "+0", "1.0", "1_0",
    "1e3", "0x1", "1,000", "\u0663", "\u00b2", "\u2460", "\uff11", "1\u0663", "1\n", "\n1", "1\t", "1-", "--1", "1a",
    "9" * 30, "1" * 5000, "0" * 5000,
)
NO_SIGNS = ("", "=", "%", "//", "**", "+-", ">", "<=", "==", "x", "a", "1", "-*", "*<", "+-*</", "\u2212")


class Refusals(unittest.TestCase):
    def refused(self, lines, kind, place):
        """Refused by this very class and number, twice in the same way, with the lines as they were."""
        before = list(lines)
        for _ in range(2):
            error = refusal(read, lines)
            self.assertIs(type(error), kind, lines)
            self.assertIs(type(error.place), int)
            self.assertEqual(error.place, place, lines)
            self.assertEqual(lines, before)

    def wrong(self, line):
        """A line that is none of the forms, wherever it stands."""
        with self.subTest(line=line[:40]):
            self.refused([line], BadLine, 0)
            self.refused(["say 1", "x = 1 + 1", line, "say 2"], BadLine, 2)
            self.refused(["loop t", line, "end"], BadLine, 1)
            self.refused(["loop t", "end", line], BadLine, 2)
            self.refused(["when t"] * 20 + [line], BadLine, 20)


class Words(Refusals):
    def test_an_empty_line(self):
        for line in ("", " ", "  ", "\n", "\t", "    "):
            self.wrong(line)

    def test_blanks_ahead_or_behind(self):
        for line in ("x = 1 + y", "say 1", "say a", "when t", "loop t", "again t", "end"):
            for bad in (" " + line, line + " ", "  " + line, line + "  ", "\t" + line, line + "\t", line + "\n",
                        "\n" + line, line + "\r", line + "\r\n", "\ufeff" + line, line + "\u00a0"):
                self.wrong(bad)

    def test_blanks_between(self):
        for line in ("x = 1 + y", "say 1", "say a", "when t", "loop t", "again t"):
            self.wrong(line.replace(" ", ""))
            self.wrong(line.replace(" ", "  "))
            for other in ("\t", "\n", "\u00a0", "\u2003", "_", "\r", "\x0b"):
                self.wrong(line.replace(" ", other))
                self.wrong(line.replace(" ", other, 1))
        for line in ("x  = 1 + y", "x =  1 + y", "x = 1  + y", "x = 1 +  y"):
            self.wrong(line)
        for line in ("x= 1 + y", "x =1 + y", "x = 1+ y", "x = 1 +y", "x=1 + y", "x = 1+y", "x=1+y"):
            self.wrong(line)

    def test_words_too_many(self):
        for line in ("x = 1 + y", "say 1", "say a", "when t", "loop t", "again t", "end"):
            for more in ("a", "1", "end", "+ 1", "= 1 + 1", "#", "say"):
                self.wrong(line + " " + more)
        self.wrong("let x = 1 + y")
        self.wrong("say 1 2")
        self.wrong("end end")

    def test_words_too_few(self):
        for line in ("say", "when", "loop", "again", "x", "x =", "x = 1", "x = 1 +", "= 1 + y", "1 + y", "+ y", "x = y",
                     "x 1 + y", "x = + y", "x = - 1", "= y", "1", "0", "=", "+", "a b"):
            self.wrong(line)

    def test_words_that_begin_no_line(self):
        for word in ("let", "Say", "SAY", "says", "sa", "When", "while", "if", "Loop", "repeat", "Again", "else", "a"):
            self.wrong(word + " a")
            self.wrong(word + " 1")
        for line in ("END", "End", "end.", "ends", "en", "let a + b 1", "let x + 1 1", "x + 1 = y", "x = + 1 y"):
            self.wrong(line)

    def test_the_mark_of_a_let(self):
        for mark in ("", "==", ":=", "+", "is", "x", "1", "-", "=="):
            self.wrong(f"x {mark} 1 + y")


class Parts(Refusals):
    def test_names_that_are_none(self):
        for name in NO_NAMES + ("0", "5", "999999") + NO_NUMBERS:
            self.wrong(f"{name} = 1 + y")
            for word in BLOCKS:
                self.wrong(f"{word} {name}")

    def test_names_and_numbers_that_are_none(self):
        for part in NO_NAMES + NO_NUMBERS:
            self.wrong(f"say {part}")
            self.wrong(f"x = {part} + y")
            self.wrong(f"x = 1 + {part}")

    def test_signs_that_are_none(self):
        for sign in NO_SIGNS:
            self.wrong(f"x = a {sign} b")
            self.wrong(f"x = 1 {sign} 2")

    def test_numbers_to_the_edge_are_right(self):
        for number in (0, 1, 9, 10, 99, 100, 99999, 100000, 999999):
            self.assertEqual(read([f"say {number}"]), [("say", number)])
            self.assertEqual(read([f"x = {number} / {number}"]), [("let", "x", "/", number, number)])


class Ends(Refusals):
    def test_an_end_without_a_block(self):
        self.refused(["end"], BadLine, 0)
        self.refused(["say 1", "end", "say 2"], BadLine, 1)
        for word in BLOCKS:
            self.refused([f"{word} t", "end", "end"], BadLine, 2)
            self.refused([f"{word} t", "say 1", f"{word} t", "end", "end", "say 1", "end"], BadLine, 6)
        self.refused(["when t"] * 20 + ["end"] * 21, BadLine, 40)

    def test_blocks_that_are_open_behind_the_last_line(self):
        for word in BLOCKS:
            self.refused([f"{word} t"], BadLine, 1)
            self.refused([f"{word} t", "say 1", "say 2"], BadLine, 3)
            self.refused([f"{word} t", f"{word} t", "end"], BadLine, 3)
            self.refused([f"{word} t", "end", f"{word} t"], BadLine, 3)
            self.refused([f"{word} t"] * 20, BadLine, 20)
            self.refused([f"{word} t"] * 20 + ["end"] * 19, BadLine, 39)

    def test_no_line_at_all(self):
        self.assertEqual(read([]), [])


class Depth(Refusals):
    def test_a_21st_block(self):
        for word in BLOCKS:
            opens = [f"{word} t"]
            self.assertIsNone(refusal(read, opens * 20 + ["end"] * 20))
            self.refused(opens * 21 + ["end"] * 21, TooDeep, 20)
            self.refused(opens * 21, TooDeep, 20)
            self.refused(opens * 40 + ["end"] * 40, TooDeep, 20)

    def test_by_its_line(self):
        self.refused(["say 1", "x = 1 + 1"] + ["loop t"] * 21, TooDeep, 22)
        self.refused(["loop t", "say 1"] * 21, TooDeep, 40)
        self.refused((["loop t"] * 20 + ["end"] * 20) * 2 + ["loop t"] * 21, TooDeep, 100)
        self.refused(["loop t"] * 20 + ["end"] + ["when t", "say 1", "again t"], TooDeep, 23)

    def test_a_depth_ends_with_its_block(self):
        self.assertIsNone(refusal(read, ["loop t"] * 20 + ["end", "when t"] * 5 + ["end"] * 20))
        self.assertIsNone(refusal(read, ["loop t", "end"] * 50))

    def test_other_lines_in_20_blocks_are_right(self):
        lines = ["loop t"] * 20 + ["say 1", "x = 1 + 1"] + ["end"] * 20
        self.assertEqual(told(read(lines)), lines)

    def test_a_line_that_is_wrong_there(self):
        for line in ("when", "when T", "when 1", "loop say", "again t ", "again  t", "loop t t", "while t", "End", ""):
            self.refused(["loop t"] * 20 + [line] + ["end"] * 21, BadLine, 20)
            self.refused(["loop t"] * 20 + [line] + ["loop t"], BadLine, 20)

    def test_lines_of_a_program_that_is_too_deep(self):
        rows = []
        for _ in range(40):
            rows = [("say", 1), ("when", "t", rows)]
        self.refused(told(rows), TooDeep, 41)


class First(Refusals):
    def test_the_first_that_is_wrong(self):
        self.refused(["say", "end"], BadLine, 0)
        self.refused(["say 1", "say", "end", "say"], BadLine, 1)
        self.refused(["end", "say"], BadLine, 0)
        self.refused(["loop t"] * 21 + ["say"], TooDeep, 20)
        self.refused(["loop t", "say"] + ["loop t"] * 21, BadLine, 1)
        self.refused(["loop t", "say 1", "x = 1 + 01", "say 1"], BadLine, 2)

    def test_each_place(self):
        lines = ["say 1", "loop t", "x = 1 + y", "when t", "end", "end", "say 2"]
        for at in range(len(lines) + 1):
            self.refused(lines[:at] + ["wrong"] + lines[at:], BadLine, at)

    def test_a_refusal_leaves_nothing_behind(self):
        self.refused(["loop t", "say 1"], BadLine, 2)
        self.assertEqual(read(["say 2"]), [("say", 2)])
        self.refused(["end"], BadLine, 0)

    def test_only_these_two_are_raised(self):
        chance = random.Random(7)
        pieces = ("say", "when", "loop", "again", "end", "t", "x", "1", "0", "01", "=", "+", "/", "-", "<", " ", " ",
                  " ", "\n", "9" * 5000, "\u00b2", "say 1", "loop t", "end", "x = 1 + 1", "x = t / 0", "when t")
        right = 0
        for _ in range(4000):
            lines = ["".join(chance.choice(pieces) for _ in range(chance.choice((0, 1, 1, 1, 2, 3, 9))))
                     for _ in range(chance.randrange(6))]
            error = refusal(read, lines)
            if error is None:
                right += 1
                self.assertEqual(told(read(lines)), lines)
            else:
                self.assertIs(type(error), BadLine)
                self.assertIn(error.place, range(len(lines) + 1))
        self.assertGreater(right, 20)


if __name__ == "__main__":
    unittest.main()
