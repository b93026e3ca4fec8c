"""What `reads`, `sets`, `may_fail` and `speaks` tell of a program."""

import copy
import unittest

from helpers import nested
from loopmover.rows import may_fail, reads, sets, speaks

SIGNS = ("+", "-", "*", "<", "/")
BLOCKS = ("when", "loop", "again")


class Telling(unittest.TestCase):
    def tells(self, call, rows, answer):
        """The answer, of its very kind, twice, with the rows as they were."""
        before = copy.deepcopy(rows)
        for _ in range(2):
            told = call(rows)
            self.assertIs(type(told), type(answer))
            self.assertEqual(told, answer)
            self.assertEqual(rows, before)


class Reads(Telling):
    def test_the_empty_program(self):
        self.tells(reads, [], [])

    def test_one_and_other_of_a_let_but_not_its_to(self):
        for sign in SIGNS:
            with self.subTest(sign=sign):
                self.tells(reads, [("let", "c", sign, "a", "b")], ["a", "b"])
                self.tells(reads, [("let", "c", sign, "b", "a")], ["a", "b"])
                self.tells(reads, [("let", "c", sign, "a", 5)], ["a"])
                self.tells(reads, [("let", "c", sign, 5, "b")], ["b"])
                self.tells(reads, [("let", "c", sign, "c", 1)], ["c"])
                self.tells(reads, [("let", "c", sign, 0, 999999)], [])

    def test_what_is_said(self):
        self.tells(reads, [("say", "a")], ["a"])
        self.tells(reads, [("say", 5)], [])

    def test_tests(self):
        for word in BLOCKS:
            with self.subTest(word=word):
                self.tells(reads, [(word, "t", [])], ["t"])

    def test_what_stands_in_blocks(self):
        for word in BLOCKS:
            with self.subTest(word=word):
                self.tells(reads, [(word, "t", [("say", "b"), ("let", "x", "+", "a", "z")])], ["a", "b", "t", "z"])

    def test_each_once(self):
        rows = [("let", "b", "+", "a", "a"), ("say", "a"), ("loop", "a", [("say", "a"), ("say", "b")])]
        self.tells(reads, rows, ["a", "b"])

    def test_in_the_order_of_texts(self):
        names = ["zz", "b", "abc", "z", "ab", "a", "ba", "let", "abcdef"]
        rows = [("say", name) for name in names]
        self.tells(reads, rows, ["a", "ab", "abc", "abcdef", "b", "ba", "let", "z", "zz"])
        self.tells(reads, rows[::-1], sorted(names))

    def test_names_that_are_only_set_are_not_read(self):
        self.tells(reads, [("let", "x", "+", 1, 2), ("when", "t", [("let", "y", "+", 1, 2)])], ["t"])

    def test_rows_behind_a_block(self):
        self.tells(reads, [("loop", "m", [("say", "c")]), ("say", "b"), ("when", "a", []), ("say", "d")],
                   ["a", "b", "c", "d", "m"])


class Sets(Telling):
    def test_the_empty_program(self):
        self.tells(sets, [], [])

    def test_a_let_sets_its_to_alone(self):
        for sign in SIGNS:
            with self.subTest(sign=sign):
                self.tells(sets, [("let", "c", sign, "a", "b")], ["c"])
                self.tells(sets, [("let", "c", sign, "c", 0)], ["c"])

    def test_a_say_and_a_test_set_nothing(self):
        self.tells(sets, [("say", "a"), ("say", 1)], [])
        for word in BLOCKS:
            self.tells(sets, [(word, "t", [("say", "a")])], [])

    def test_what_stands_in_blocks(self):
        for word in BLOCKS:
            with self.subTest(word=word):
                rows = [("let", "m", "+", 1, 1), (word, "t", [("let", "z", "+", 1, 1), ("let", "b", "+", 1, 1)])]
                self.tells(sets, rows, ["b", "m", "z"])

    def test_each_once_in_the_order_of_texts(self):
        names = ["zz", "b", "abc", "z", "b", "ab", "a", "zz", "ba", "let"]
        rows = [("let", name, "+", "q", 1) for name in names]
        self.tells(sets, rows, ["a", "ab", "abc", "b", "ba", "let", "z", "zz"])
        self.tells(sets, [("loop", "t", rows), ("let", "a", "-", 0, 0)], sorted(set(names)))


class MayFail(Telling):
    def test_the_empty_program(self):
        self.tells(may_fail, [], False)

    def test_by_the_other_of_a_division(self):
        for one in ("a", 0, 5):
            with self.subTest(one=one):
                self.tells(may_fail, [("let", "x", "/", one, "b")], True)
                self.tells(may_fail, [("let", "x", "/", one, 0)], True)
                self.tells(may_fail, [("let", "x", "/", one, 1)], False)
                self.tells(may_fail, [("let", "x", "/", one, 999999)], False)

    def test_other_signs(self):
        for sign in SIGNS[:-1]:
            for other in ("b", 0, 1):
                with self.subTest(sign=sign, other=other):
                    self.tells(may_fail, [("let", "x", sign, "a", other)], False)

    def test_other_rows(self):
        self.tells(may_fail, [("say", "a"), ("say", 0)], False)
        for word in BLOCKS:
            self.tells(may_fail, [(word, "a", [])], False)
            self.tells(may_fail, [(word, "a", [("say", 0), ("let", "x", "/", 1, 2)])], False)

    def test_within_blocks(self):
        for word in BLOCKS:
            for other in ("b", 0):
                with self.subTest(word=word, other=other):
                    self.tells(may_fail, [(word, "a", [("let", "x", "/", 1, other)])], True)
                    self.tells(may_fail, [("say", 1), (word, "a", [("say", 1), ("let", "x", "/", 1, other)])], True)

    def test_some_row_is_enough(self):
        safe, fails = ("let", "x", "/", 0, 1), ("let", "x", "/", 1, "b")
        for rows in ([safe, fails], [fails, safe], [("when", "a", [safe]), fails], [fails, ("when", "a", [safe])]):
            self.tells(may_fail, rows, True)
        self.tells(may_fail, [safe, safe], False)


class Speaks(Telling):
    def test_the_empty_program(self):
        self.tells(speaks, [], False)

    def test_a_say_speaks(self):
        self.tells(speaks, [("say", "a")], True)
        self.tells(speaks, [("say", 0)], True)

    def test_a_let_does_not(self):
        for sign in SIGNS:
            self.tells(speaks, [("let", "x", sign, "a", 0)], False)

    def test_within_blocks(self):
        for word in BLOCKS:
            with self.subTest(word=word):
                self.tells(speaks, [(word, "a", [])], False)
                self.tells(speaks, [(word, "a", [("let", "x", "/", "a", 0)])], False)
                self.tells(speaks, [(word, "a", [("let", "x", "+", 1, 1), ("say", 0)])], True)
                self.tells(speaks, [(word, "a", [(word, "b", [("say", "a")]), ("let", "x", "+", 1, 1)])], True)

    def test_some_row_is_enough(self):
        let = ("let", "x", "+", 1, 1)
        self.tells(speaks, [let, ("say", 1), let], True)
        self.tells(speaks, [("loop", "a", [("say", 1)]), let], True)
        self.tells(speaks, [let, let], False)


class Deep(Telling):
    def test_twice_as_deep_as_checked_takes(self):
        inner = [("let", "x", "/", "o", "p"), ("say", "s")]
        for word in BLOCKS:
            for deep in (20, 21, 40, 45):
                with self.subTest(word=word, deep=deep):
                    rows = nested(deep, inner, word, "t")
                    self.tells(reads, rows, ["o", "p", "s", "t"])
                    self.tells(sets, rows, ["x"])
                    self.tells(may_fail, rows, True)
                    self.tells(speaks, rows, True)

    def test_nothing_to_tell_of_the_depths(self):
        rows = nested(40, [("let", "x", "/", 1, 2)])
        self.tells(may_fail, rows, False)
        self.tells(speaks, rows, False)
        self.tells(sets, nested(40, []), [])

    def test_each_depth_is_looked_at(self):
        rows = []
        for at in range(40):
            name = "abcdefghij"[at // 4] + "abcd"[at % 4]
            rows = [("say", name), ("when", name + "t", rows), ("let", name + "s", "+", 1, 1)]
        names = [one + two for one in "abcdefghij" for two in "abcd"]
        self.tells(reads, rows, sorted(names + [name + "t" for name in names]))
        self.tells(sets, rows, [name + "s" for name in names])

    def test_many_rows(self):
        rows = [("loop", "t", [("let", "x", "/", "a", 1), ("say", "b")] * 40)] * 20
        self.tells(reads, rows, ["a", "b", "t"])
        self.tells(sets, rows, ["x"])
        self.tells(may_fail, rows, False)
        self.tells(speaks, rows, True)


class Beyond(Telling):
    def test_names_somewhat_longer_than_they_may_be(self):
        rows = [("let", "longname", "/", "another", "onemore"), ("loop", "testname", [("say", "saidname")])]
        self.tells(reads, rows, ["another", "onemore", "saidname", "testname"])
        self.tells(sets, rows, ["longname"])
        self.tells(may_fail, rows, True)


class OwnLists(unittest.TestCase):
    def test_what_is_told_may_be_changed(self):
        rows = [("let", "x", "+", "a", 1), ("loop", "b", [("say", "c")])]
        for call, answer in ((reads, ["a", "b", "c"]), (sets, ["x"])):
            with self.subTest(call=call.__name__):
                told = call(rows)
                told.append("no name")
                told[0] = "changed"
                self.assertEqual(call(rows), answer)
                self.assertIsNot(call(rows), call(rows))
        self.assertEqual(rows, [("let", "x", "+", "a", 1), ("loop", "b", [("say", "c")])])

    def test_the_empty_answer_may_be_changed(self):
        for call in (reads, sets):
            rows = []
            told = call(rows)
            told.append("a")
            self.assertEqual(rows, [])
            self.assertEqual(call(rows), [])


if __name__ == "__main__":
    unittest.main()
