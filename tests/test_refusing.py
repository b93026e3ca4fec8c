"""What `checked` refuses, by which class, and what comes first."""

import copy
import unittest

from helpers import nested, refusal
from loopmover.errors import BadName, BadNumber, BadRow, TooDeep
from loopmover.rows import checked

LET = ("let", "a", "+", "b", 1)
SAY = ("say", "a")
BLOCKS = ("when", "loop", "again")

NO_NAME_TEXTS = (
    "", "abcdefg", "aaaaaaaaaaaa", "say", "when", "loop", "again", "end",
    "A", "aB", "Abc", "SAY", "a1", "1", "a_b", "_", "a b", " a", "a ", "a\n", "a-b", "+", "a.b",
    "\u00e9", "a\u00df", "\u03b1", "\u00aa", "`", "{", "a`", "z{", "a\x00",
)
NO_TEXTS = (None, True, False, 0, 1, 5, -1, 1.5, b"a", ["a"], ("a",), {"a": 1}, {"a"}, [], (), object())
NO_NUMBERS = (
    -1, -999999, 1000000, 10 ** 30, True, False, None, 0.0, 1.0, 1.5, b"a", b"1",
    [], [1], ["a"], (), (1,), {}, {"a": 1}, {1}, object(),
)


class Alike:
    """A thing that says it is equal to any other, and yet is no text."""

    def __eq__(self, other):
        return True

    def __hash__(self):
        return hash("+")


class Refusals(unittest.TestCase):
    def refused(self, rows, kind):
        """Refused by this very class, twice in the same way; the error."""
        error = refusal(checked, rows)
        self.assertIs(type(error), kind)
        self.assertIs(type(refusal(checked, rows)), kind)
        return error

    def refused_anywhere(self, row, kind):
        """A row is refused wherever it stands."""
        self.refused([row], kind)
        self.refused([LET, SAY, row, LET], kind)
        for word in BLOCKS:
            self.refused([(word, "a", [row])], kind)
        self.refused(nested(20, [SAY, row]), kind)


class Rows(Refusals):
    no_lists = (None, True, False, 0, 7, 1.5, "", "say", b"", (), (SAY,), {}, {1: SAY}, {"a"}, object(), iter([]))

    def test_rows_that_are_no_list(self):
        for rows in self.no_lists:
            with self.subTest(rows=repr(rows)):
                self.refused(rows, BadRow)

    def test_rows_of_a_block_that_are_no_list(self):
        for rows in self.no_lists:
            for word in BLOCKS:
                with self.subTest(rows=repr(rows), word=word):
                    self.refused_anywhere_but_innermost((word, "a", rows))

    def refused_anywhere_but_innermost(self, block):
        self.refused([block], BadRow)
        self.refused([SAY, block], BadRow)
        self.refused([("when", "a", [LET, block])], BadRow)
        self.refused(nested(19, [block]), BadRow)

    def test_a_row_that_is_no_tuple(self):
        for row in (None, True, 0, 5, 1.5, "", "say", "ab", b"say", [], ["say", "a"], list(LET), {}, {"say": "a"}):
            with self.subTest(row=repr(row)):
                self.refused_anywhere(row, BadRow)

    def test_an_empty_tuple(self):
        self.refused_anywhere((), BadRow)

    def test_a_first_word_that_is_no_text(self):
        for word in (None, True, False, 0, 1, 1.5, b"say", ["say"], ("say",), {}, {"say": 2}, object()):
            for rest in ((), ("a",), ("a", []), ("a", "+", 1, 1)):
                with self.subTest(word=repr(word), rest=rest):
                    self.refused_anywhere((word,) + rest, BadRow)

    def test_a_first_word_that_is_none_of_the_five(self):
        for word in ("", "end", "Say", "SAY", "say ", " say", "says", "le", "lets", "while", "if", "a", "="):
            for rest in ((), ("a",), ("a", []), ("a", "+", 1, 1)):
                with self.subTest(word=word, rest=rest):
                    self.refused_anywhere((word,) + rest, BadRow)

    def test_a_length_other_than_the_word_wants(self):
        lengths = {"let": 5, "say": 2, "when": 3, "loop": 3, "again": 3}
        parts = {"let": ("a", "+", 1, 1), "say": ("a",), "when": ("a", []), "loop": ("a", []), "again": ("a", [])}
        for word, length in lengths.items():
            whole = (word,) + parts[word]
            self.assertEqual(len(whole), length)
            for row in (whole[:1], whole[:-1], whole + (1,), whole + ("a",), whole + ([],), whole + whole):
                if len(row) != length:
                    with self.subTest(row=row):
                        self.refused_anywhere(row, BadRow)

    def test_the_length_of_another_word(self):
        for row in (("let", "a"), ("let", "a", []), ("say", "a", []), ("say", "a", "+", 1, 1),
                    ("when", "a"), ("loop", "a", "+", 1, 1), ("again", "a")):
            with self.subTest(row=row):
                self.refused_anywhere(row, BadRow)

    def test_a_sign_that_is_none(self):
        for sign in ("", "=", "%", "//", "+-", "+ ", " +", "<=", ">", "**", "a", "+-*</", "-*",
                     None, True, 0, 1, b"+", ["+"], ("+",), {"+": 1}, object(), Alike()):
            with self.subTest(sign=repr(sign)):
                self.refused_anywhere(("let", "a", sign, "b", 1), BadRow)


class NamesAndNumbers(Refusals):
    def test_where_a_name_is_wanted(self):
        for thing in NO_NAME_TEXTS + NO_TEXTS:
            with self.subTest(thing=repr(thing)):
                self.refused_anywhere(("let", thing, "+", "b", 1), BadName)
                for word in BLOCKS:
                    self.refused([(word, thing, [])], BadName)
                    self.refused([SAY, ("loop", "a", [LET, (word, thing, [SAY])])], BadName)
                    self.refused(nested(19, [(word, thing, [])]), BadName)

    def test_a_text_that_is_no_name_where_a_number_may_stand(self):
        for text in NO_NAME_TEXTS + ("0", "12", "-1", "999999"):
            with self.subTest(text=text):
                self.refused_anywhere(("say", text), BadName)
                self.refused_anywhere(("let", "a", "+", text, 1), BadName)
                self.refused_anywhere(("let", "a", "/", 1, text), BadName)

    def test_what_is_neither_a_text_nor_a_number(self):
        for thing in NO_NUMBERS:
            with self.subTest(thing=repr(thing)):
                self.refused_anywhere(("say", thing), BadNumber)
                self.refused_anywhere(("let", "a", "+", thing, "b"), BadNumber)
                self.refused_anywhere(("let", "a", "/", "b", thing), BadNumber)


class Order(Refusals):
    # A row that is refused, by each of three classes.
    wrongs = ((("say",), BadRow), (("say", "A"), BadName), (("say", -1), BadNumber))

    def test_the_first_row_that_is_wrong(self):
        for first, kind in self.wrongs:
            for second, _ in self.wrongs:
                with self.subTest(first=first, second=second):
                    self.refused([first, second], kind)
                    self.refused([LET, first, SAY, second], kind)
                    self.refused([("loop", "a", [SAY, first]), second], kind)
                    self.refused([first, ("loop", "a", [second])], kind)
                    self.refused([("when", "a", [("again", "b", [first]), second])], kind)

    def test_a_block_ahead_of_its_rows(self):
        for word in BLOCKS:
            for inner, kind in self.wrongs:
                with self.subTest(word=word, inner=inner):
                    self.refused([(word, "A", [inner])], BadName)
                    self.refused([(word, 5, [inner])], BadName)
                    self.refused([(word, "a", [inner], 1)], BadRow)
                    self.refused([(word, "a", (inner,))], BadRow)
                    self.refused([(word, "a", [inner, (word, "A", [])])], kind)

    def test_a_test_ahead_of_rows_that_are_no_list(self):
        for word in BLOCKS:
            self.refused([(word, "A", None)], BadName)
            self.refused([(word, None, ())], BadName)

    def test_the_rows_of_a_block_ahead_of_the_row_behind_it(self):
        self.refused([("loop", "a", ["say"]), ("say", -1)], BadRow)
        self.refused([("loop", "a", None), ("say", -1)], BadRow)
        self.refused([("loop", "a", []), ("say", -1), ("say", "A")], BadNumber)

    def test_the_form_of_a_row_ahead_of_its_parts(self):
        self.refused([("let", "A", "+", -1)], BadRow)
        self.refused([("let", "A", "+", -1, 1, 1)], BadRow)
        self.refused([("say", -1, "A")], BadRow)
        self.refused([["say", -1]], BadRow)
        self.refused([("end", "A", -1)], BadRow)

    def test_the_parts_of_a_let_from_the_left(self):
        self.refused([("let", "A", "=", -1, "A")], BadName)
        self.refused([("let", 5, "=", "A", -1)], BadName)
        self.refused([("let", "A", "+", -1, 1)], BadName)
        self.refused([("let", "A", "+", 1, -1)], BadName)
        self.refused([("let", "a", "=", "A", -1)], BadRow)
        self.refused([("let", "a", "=", -1, "A")], BadRow)
        self.refused([("let", "a", "=", 1, "A")], BadRow)
        self.refused([("let", "a", "=", 1, -1)], BadRow)
        self.refused([("let", "a", "+", "A", -1)], BadName)
        self.refused([("let", "a", "+", -1, "A")], BadNumber)


class Depth(Refusals):
    def too_deep(self, rows, place):
        before = copy.deepcopy(rows)
        error = self.refused(rows, TooDeep)
        self.assertIs(type(error.place), int)
        self.assertEqual(error.place, place)
        self.assertEqual(rows, before)

    def test_the_21st_block(self):
        for word in BLOCKS:
            with self.subTest(word=word):
                self.assertIsNone(refusal(checked, nested(20, [], word)))
                self.too_deep(nested(21, [], word), 20)
                self.too_deep(nested(22, [SAY], word), 20)
                self.too_deep(nested(40, [SAY], word), 20)

    def test_blocks_of_all_kinds_count(self):
        rows = []
        for at in range(21):
            rows = [(BLOCKS[at % 3], "a", rows)]
        self.too_deep(rows, 20)
        self.assertEqual(checked(rows[0][2]), 20)

    def test_rows_ahead_of_it_are_looked_at(self):
        self.too_deep([LET, SAY, LET] + nested(21, []), 23)
        self.too_deep(nested(20, [LET, SAY, ("when", "a", [])]), 22)
        self.too_deep(nested(20, [LET, ("when", "a", []), SAY]), 21)
        self.too_deep(nested(21, []) + [LET, SAY], 20)

    def test_rows_ahead_of_it_at_several_depths(self):
        rows = [LET, ("loop", "a", [])]
        for _ in range(20):
            rows = [SAY, ("when", "a", rows), SAY]
        # Each depth has a row and its block ahead, the innermost one a row.
        self.too_deep(rows, 41)
        self.too_deep([LET, ("loop", "b", [SAY, LET])] + rows, 45)

    def test_a_whole_deep_block_ahead_of_it(self):
        self.too_deep(nested(20, [SAY]) + nested(21, []), 41)
        self.too_deep(nested(10, nested(10, [LET]) + nested(11, [])), 31)

    def test_ahead_of_its_test_and_its_rows(self):
        for word in BLOCKS:
            for test in ("A", "", "say", 5, None, True, []):
                with self.subTest(word=word, test=test):
                    self.too_deep(nested(20, [(word, test, [])]), 20)
            for rows in (None, (), "say", [None], [("say", "A")]):
                with self.subTest(word=word, rows=rows):
                    self.too_deep(nested(20, [(word, "a", rows)]), 20)

    def test_behind_its_form(self):
        for row in (("loop",), ("loop", "a"), ("loop", "a", [], 1), ["loop", "a", []], ("loops", "a", [])):
            with self.subTest(row=row):
                self.refused(nested(20, [row]), BadRow)

    def test_the_first_that_is_wrong_is_refused(self):
        deep = ("loop", "a", [])
        self.refused(nested(20, [("say", "A"), deep]), BadName)
        self.refused(nested(20, [("say", -1), deep]), BadNumber)
        self.refused([("say",)] + nested(21, []), BadRow)
        self.refused(nested(20, [deep], test="A"), BadName)
        self.too_deep(nested(20, [deep, ("say", "A")]), 20)
        self.too_deep(nested(21, []) + [("say", -1)], 20)

    def test_rows_that_stand_in_themselves(self):
        rows = [SAY]
        rows.append(("loop", "a", rows))
        error = refusal(checked, rows)
        self.assertIs(type(error), TooDeep)
        self.assertEqual(error.place, 41)


class Unchanged(Refusals):
    def test_what_is_refused_is_unchanged(self):
        for wrong, kind in Order.wrongs:
            rows = [LET, ("loop", "a", [SAY, ("when", "b", [wrong])]), SAY]
            before = copy.deepcopy(rows)
            self.refused(rows, kind)
            self.assertEqual(rows, before)

    def test_a_refusal_leaves_nothing_behind(self):
        self.assertEqual(checked([LET, SAY]), 2)
        self.refused([LET, SAY, LET, None], BadRow)
        self.assertEqual(checked([LET, SAY]), 2)
        self.assertEqual(refusal(checked, nested(21, [])).place, 20)
        self.assertEqual(checked(nested(20, [])), 20)


if __name__ == "__main__":
    unittest.main()
