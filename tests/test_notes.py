"""How programs are written as lines, and how lines are read."""

import copy
import unittest

from helpers import nested, refusal
from loopmover import notes
from loopmover.moving import moved
from loopmover.notes import read, told
from loopmover.rows import checked
from programs import lists_in, programs, spoil

BLOCKS = ("when", "loop", "again")
SIGNS = ("+", "-", "*", "<", "/")

# A program of all forms, and its lines.
WHOLE = [
    ("let", "n", "+", 3, 0),
    ("loop", "n", [
        ("let", "half", "/", "size", 2),
        ("when", "half", [("say", "half"), ("say", 999999)]),
        ("again", "more", []),
        ("let", "n", "-", "n", 1),
    ]),
    ("let", "a", "*", "b", "c"),
    ("let", "let", "<", 0, "zzzzzz"),
    ("say", 0),
]
LINES = [
    "n = 3 + 0", "loop n", "half = size / 2", "when half", "say half", "say 999999", "end", "again more", "end",
    "n = n - 1", "end", "a = b * c", "let = 0 < zzzzzz", "say 0",
]


class Writing(unittest.TestCase):
    def writes(self, rows, lines):
        """The lines, twice, with the program as it was; they are read to the same program."""
        before = copy.deepcopy(rows)
        for _ in range(2):
            answer = told(rows)
            self.assertIs(type(answer), list)
            self.assertEqual(answer, lines)
            self.assertEqual(rows, before)
            self.assertTrue(all(type(line) is str for line in answer))
        kept = list(lines)
        for _ in range(2):
            program = read(lines)
            self.assertIs(type(program), list)
            self.assertEqual(program, rows)
            self.assertEqual(lines, kept)

    def test_the_empty_program(self):
        self.writes([], [])

    def test_lets(self):
        for sign in SIGNS:
            for one in ("a", "p", 0, 7, 10, 999999):
                for other in ("a", "q", 0, 7, 100, 999999):
                    self.writes([("let", "x", sign, one, other)], [f"x = {one} {sign} {other}"])

    def test_says(self):
        for part in ("a", "zzzzzz", "let", 0, 1, 9, 10, 19, 100, 100000, 999998, 999999):
            self.writes([("say", part)], [f"say {part}"])

    def test_names(self):
        for name in ("a", "z", "az", "abc", "abcdef", "zzzzzz", "let", "saying", "ends", "whe"):
            self.writes([("let", name, "+", name, name)], [f"{name} = {name} + {name}"])
            for word in BLOCKS:
                self.writes([(word, name, [])], [f"{word} {name}", "end"])

    def test_blocks(self):
        for word in BLOCKS:
            self.writes([(word, "t", [])], [f"{word} t", "end"])
            self.writes([(word, "t", [("say", 1), ("say", 2)]), ("say", 3)],
                        [f"{word} t", "say 1", "say 2", "end", "say 3"])
            self.writes([(word, "t", []), (word, "u", [])], [f"{word} t", "end", f"{word} u", "end"])

    def test_blocks_within_blocks(self):
        for outer in BLOCKS:
            for inner in BLOCKS:
                self.writes([(outer, "a", [("say", 1), (inner, "b", [("say", 2)]), ("say", 3), (inner, "c", [])])],
                            [f"{outer} a", "say 1", f"{inner} b", "say 2", "end", "say 3", f"{inner} c", "end", "end"])

    def test_a_program_of_all_forms(self):
        self.writes(WHOLE, LINES)
        self.assertEqual(checked(read(LINES)), checked(WHOLE))

    def test_20_blocks_in_one_another(self):
        for word in BLOCKS:
            self.writes(nested(20, [("say", 1)], word, "t"), [f"{word} t"] * 20 + ["say 1"] + ["end"] * 20)
        self.writes(nested(20, []) * 3, (["loop a"] * 20 + ["end"] * 20) * 3)
        self.writes(nested(19, [("when", "a", []), ("loop", "b", [])], "again"),
                    ["again a"] * 19 + ["when a", "end", "loop b", "end"] + ["end"] * 19)

    def test_many_blocks_behind_one_another(self):
        self.writes([("when", "t", [])] * 60, ["when t", "end"] * 60)

    def test_programs_twice_as_deep_are_written(self):
        for word in BLOCKS:
            for deep in (21, 40, 45):
                lines = [f"{word} t"] * deep + ["say 1", "x = a + 1"] + ["end"] * deep
                rows = nested(deep, [("say", 1), ("let", "x", "+", "a", 1)], word, "t")
                self.assertEqual(told(rows), lines)
                self.assertEqual(told(rows), lines)

    def test_many_rows(self):
        self.writes([("say", 1)] * 3000, ["say 1"] * 3000)
        self.writes([("when", "t", [("say", 1)] * 30)] * 100, (["when t"] + ["say 1"] * 30 + ["end"]) * 100)

    def test_many_programs(self):
        for rows in programs(1000, 6):
            self.assertEqual(read(told(rows)), rows)
            self.assertEqual(read(told(moved(rows))), moved(rows))

    def test_what_is_told_may_be_changed(self):
        rows = copy.deepcopy(WHOLE)
        lines = told(rows)
        lines.append("changed")
        lines[0] = "changed"
        self.assertEqual(rows, WHOLE)
        self.assertEqual(told(rows), LINES)

    def test_what_is_read_may_be_changed(self):
        lines = list(LINES)
        program = read(lines)
        parts = [id(part) for part in lists_in(program)]
        self.assertEqual(len(set(parts)), len(parts))
        spoil(program)
        self.assertEqual(lines, LINES)
        self.assertEqual(read(lines), WHOLE)
        read([]).append("changed")
        self.assertEqual(read([]), [])

    def test_somewhat_beyond_limits(self):
        self.assertEqual(told([("let", "longname", "+", 1000000, "q")]), ["longname = 1000000 + q"])


class Interface(unittest.TestCase):
    def test_each_is_defined_in_its_file(self):
        for name in ("told", "read"):
            self.assertEqual(getattr(notes, name).__module__, "loopmover.notes")

    def test_how_their_arguments_are_called(self):
        self.assertEqual(told(rows=[("say", 1)]), ["say 1"])
        self.assertEqual(read(lines=["say 1"]), [("say", 1)])
        self.assertIsNone(refusal(read, LINES))


if __name__ == "__main__":
    unittest.main()
