"""What `checked` counts, and the edges of what it takes."""

import copy
import unittest

from helpers import nested
from loopmover import rows as module
from loopmover.rows import checked

LET = ("let", "a", "+", "b", 1)
SAY = ("say", "a")
BLOCKS = ("when", "loop", "again")


class Counts(unittest.TestCase):
    def counted(self, rows, many):
        before = copy.deepcopy(rows)
        answer = checked(rows)
        self.assertIs(type(answer), int)
        self.assertEqual(answer, many)
        self.assertEqual(rows, before)
        self.assertEqual(checked(rows), many)

    def test_empty_program(self):
        self.counted([], 0)

    def test_rows_behind_another(self):
        self.counted([LET], 1)
        self.counted([SAY], 1)
        self.counted([LET, SAY, LET, SAY], 4)

    def test_empty_blocks(self):
        for word in BLOCKS:
            with self.subTest(word=word):
                self.counted([(word, "a", [])], 1)
                self.counted([(word, "a", []), (word, "b", [])], 2)

    def test_a_block_and_what_stands_in_it(self):
        for word in BLOCKS:
            with self.subTest(word=word):
                self.counted([(word, "a", [LET])], 2)
                self.counted([(word, "a", [LET, SAY, LET]), SAY], 5)

    def test_blocks_within_blocks(self):
        inner = ("when", "a", [LET, ("again", "b", [SAY])])
        self.counted([LET, ("loop", "c", [inner, SAY, ("when", "d", [])]), SAY], 9)

    def test_the_same_rows_at_two_places(self):
        body = [LET, SAY]
        self.counted([("loop", "a", body), ("again", "b", body)], 6)

    def test_many_rows(self):
        self.counted([LET, SAY] * 350, 700)
        self.counted([("loop", "a", [LET] * 9)] * 50, 500)

    def test_nothing_counts_whether_there_are_more_than_2000(self):
        self.counted([SAY] * 2000, 2000)
        self.counted([SAY] * 2001, 2001)
        self.counted([("when", "a", [SAY] * 40)] * 100, 4100)

    def test_twenty_blocks_in_one_another(self):
        for word in BLOCKS:
            with self.subTest(word=word):
                self.counted(nested(20, [], word), 20)
                self.counted(nested(20, [LET, SAY], word), 22)

    def test_depth_ends_with_its_block(self):
        self.counted(nested(20, []) + nested(20, [SAY]) + [LET], 42)
        self.counted(nested(19, [("when", "a", []), ("loop", "a", []), ("again", "a", [])]), 22)
        self.counted([("when", "a", [])] * 60, 60)


class Taken(unittest.TestCase):
    def test_every_sign(self):
        for sign in ("+", "-", "*", "<", "/"):
            with self.subTest(sign=sign):
                self.assertEqual(checked([("let", "a", sign, "b", "c")]), 1)
                self.assertEqual(checked([("let", "a", sign, 0, 0)]), 1)

    def test_names_of_one_to_six_letters(self):
        # "let" begins no line, so it is not among the words that are no names.
        for name in ("a", "z", "az", "abc", "saying", "abcdef", "zzzzzz", "let", "ends", "whe"):
            with self.subTest(name=name):
                rows = [("let", name, "+", name, name), ("say", name)]
                self.assertEqual(checked(rows), 2)
                self.assertEqual(checked([(word, name, []) for word in BLOCKS]), 3)

    def test_numbers_to_the_edge(self):
        for number in (0, 1, 10, 999998, 999999):
            with self.subTest(number=number):
                rows = [("let", "a", "-", number, "b"), ("let", "a", "*", "b", number)]
                self.assertEqual(checked(rows + [("say", number)]), 3)


class Interface(unittest.TestCase):
    def test_each_function_is_defined_in_its_file(self):
        for name in ("checked", "reads", "sets", "may_fail", "speaks"):
            with self.subTest(name=name):
                self.assertEqual(getattr(module, name).__module__, "loopmover.rows")

    def test_the_argument_is_called_rows(self):
        self.assertEqual(module.checked(rows=[SAY]), 1)
        self.assertEqual(module.reads(rows=[SAY]), ["a"])
        self.assertEqual(module.sets(rows=[LET]), ["a"])
        self.assertIs(module.may_fail(rows=[SAY]), False)
        self.assertIs(module.speaks(rows=[SAY]), True)


if __name__ == "__main__":
    unittest.main()
