"""What `run` does: the order of the rows, the signs, the blocks, the steps and the endings."""

import copy
import unittest

from helpers import nested
from loopmover import running
from loopmover.running import run

BLOCKS = ("when", "loop", "again")
SIGNS = ("+", "-", "*", "<", "/")
DOWN = ("let", "n", "-", "n", 1)


class Runs(unittest.TestCase):
    def ran(self, rows, given=(), most=1000):
        """What a run tells, twice the same, of the kinds it must be, with nothing changed."""
        given = dict(given)
        before = copy.deepcopy((rows, given))
        answer = run(rows, given, most)
        self.assertEqual(run(rows, given, most), answer)
        self.assertEqual((rows, given), before)
        self.assertIs(type(answer), tuple)
        self.assertEqual(len(answer), 4)
        said, ending, values, steps = answer
        self.assertIs(type(said), list)
        self.assertIs(type(ending), str)
        self.assertIn(ending, ("done", "too long", "by nought"))
        self.assertIs(type(steps), int)
        if ending == "done":
            self.assertIs(type(values), dict)
            self.assertIsNot(values, given)
        else:
            self.assertIsNone(values)
        for number in said + list((values or {}).values()):
            self.assertIs(type(number), int)
        return answer

    def tells(self, rows, given, said, values, steps):
        """A run that is done."""
        self.assertEqual(self.ran(rows, given), (said, "done", values, steps))


class Signs(Runs):
    def comes_to(self, sign, one, other, answer):
        """By numbers, by names, and by one of each."""
        given = {"p": one, "q": other}
        for first in (one, "p"):
            for second in (other, "q"):
                with self.subTest(sign=sign, one=first, other=second):
                    after = dict(given, x=answer)
                    self.tells([("let", "x", sign, first, second)], given, [], after, 1)

    def test_sums(self):
        for one, other, answer in ((0, 0, 0), (2, 3, 5), (0, 7, 7), (999998, 1, 999999), (999999, 1, 0),
                                   (999999, 2, 1), (500000, 500000, 0), (999999, 999999, 999998)):
            self.comes_to("+", one, other, answer)

    def test_differences(self):
        for one, other, answer in ((0, 0, 0), (7, 3, 4), (3, 7, 999996), (0, 1, 999999), (5, 5, 0), (9, 0, 9),
                                   (0, 999999, 1), (999999, 0, 999999), (999999, 1, 999998)):
            self.comes_to("-", one, other, answer)

    def test_products(self):
        for one, other, answer in ((0, 5, 0), (1, 999999, 999999), (3, 4, 12), (1000, 1000, 0), (1000, 1001, 1000),
                                   (999999, 999999, 1), (999, 1001, 999999), (123456, 654321, 853376)):
            self.comes_to("*", one, other, answer)

    def test_less(self):
        for one, other, answer in ((0, 0, 0), (0, 1, 1), (1, 0, 0), (5, 5, 0), (9, 10, 1), (10, 9, 0),
                                   (999998, 999999, 1), (999999, 999998, 0), (999999, 999999, 0)):
            self.comes_to("<", one, other, answer)

    def test_division(self):
        for one, other, answer in ((0, 1, 0), (7, 2, 3), (6, 2, 3), (5, 6, 0), (6, 6, 1), (999999, 1, 999999),
                                   (999999, 2, 499999), (999999, 999999, 1), (999998, 999999, 0), (1, 999999, 0)):
            self.comes_to("/", one, other, answer)

    def test_one_and_other_are_the_same_name(self):
        for sign, answer in (("+", 14), ("-", 0), ("*", 49), ("<", 0), ("/", 1)):
            self.tells([("let", "x", sign, "p", "p")], {"p": 7}, [], {"p": 7, "x": answer}, 1)

    def test_to_is_read_ahead_of_being_set(self):
        for sign, answer in (("+", 9), ("-", 5), ("*", 14), ("<", 0), ("/", 3)):
            self.tells([("let", "p", sign, "p", 2)], {"p": 7}, [], {"p": answer}, 1)
        for sign, answer in (("+", 9), ("-", 999995), ("*", 14), ("<", 1), ("/", 0)):
            self.tells([("let", "p", sign, 2, "p")], {"p": 7}, [], {"p": answer}, 1)

    def test_names_that_nobody_gave_or_set_are_0(self):
        for sign, answer in (("+", 5), ("-", 5), ("*", 0), ("<", 0)):
            self.tells([("let", "x", sign, 5, "q")], {}, [], {"x": answer}, 1)
        for sign, answer in (("+", 5), ("-", 999995), ("*", 0), ("<", 1), ("/", 0)):
            self.tells([("let", "x", sign, "q", 5)], {}, [], {"x": answer}, 1)
        self.tells([("let", "x", "+", "x", 1)], {}, [], {"x": 1}, 1)
        self.tells([("say", "q")], {}, [0], {}, 1)


class Values(Runs):
    def test_the_empty_program(self):
        self.tells([], {}, [], {}, 0)
        self.tells([], {"a": 5}, [], {"a": 5}, 0)

    def test_given_names_that_are_never_used(self):
        self.tells([("let", "x", "+", 1, 1)], {"q": 5, "zero": 0}, [], {"q": 5, "zero": 0, "x": 2}, 1)

    def test_names_that_are_only_read_are_not_told(self):
        rows = [("say", "a"), ("let", "x", "+", "b", "c"), ("when", "d", []), ("loop", "e", []), ("again", "f", [])]
        self.tells(rows, {}, [0], {"x": 0}, 5)

    def test_names_that_are_set_to_0_are_told(self):
        self.tells([("let", "x", "*", 0, 0)], {}, [], {"x": 0}, 1)

    def test_names_in_rows_that_are_not_done_are_not_told(self):
        for word in ("when", "loop"):
            self.tells([(word, "t", [("let", "x", "+", 1, 1)])], {}, [], {}, 1)

    def test_a_given_name_may_be_set(self):
        self.tells([("let", "x", "+", "x", 1), ("let", "x", "+", "x", "x")], {"x": 4}, [], {"x": 10}, 2)

    def test_what_is_said_in_order(self):
        rows = [("say", 3), ("let", "x", "+", 1, 1), ("say", "x"), ("say", "q"), ("let", "x", "*", "x", 10),
                ("say", "x"), ("say", 0), ("say", 999999), ("say", 3)]
        self.tells(rows, {}, [3, 2, 0, 20, 0, 999999, 3], {"x": 20}, 9)

    def test_what_is_told_may_be_changed(self):
        given = {"a": 1}
        rows = [("say", "a"), ("let", "x", "+", "a", 1)]
        said, _, values, _ = run(rows, given, 10)
        said.append("changed")
        values["a"] = "changed"
        self.assertEqual(given, {"a": 1})
        self.assertEqual(run(rows, given, 10), ([1], "done", {"a": 1, "x": 2}, 2))

    def test_nothing_is_kept_between_two_runs(self):
        first = run([("let", "x", "+", 7, 0), ("say", "x")], {"y": 3}, 10)
        self.assertEqual(run([("say", "x"), ("say", "y")], {}, 10), ([0, 0], "done", {}, 2))
        self.assertEqual(first, ([7], "done", {"x": 7, "y": 3}, 2))
        run([("say", 1)], {}, 0)
        self.assertEqual(run([("say", 1)], {}, 1), ([1], "done", {}, 1))


class Blocks(Runs):
    def test_a_when_that_is_not_entered(self):
        self.tells([("when", "t", [("say", 1)]), ("say", 2)], {}, [2], {}, 2)
        self.tells([("when", "t", [("say", 1)]), ("say", 2)], {"t": 0}, [2], {"t": 0}, 2)

    def test_a_when_is_entered_once(self):
        for worth in (1, 2, 999999):
            self.tells([("when", "t", [("say", 1)]), ("say", 2)], {"t": worth}, [1, 2], {"t": worth}, 3)

    def test_a_loop_that_is_not_entered(self):
        self.tells([("loop", "t", [("say", 1)]), ("say", 2)], {}, [2], {}, 2)

    def test_a_loop_that_is_entered_once(self):
        self.tells([("loop", "n", [("say", "n"), DOWN]), ("say", 9)], {"n": 1}, [1, 9], {"n": 0}, 5)

    def test_a_loop_that_is_entered_several_times(self):
        for many in range(2, 7):
            said = list(range(many, 0, -1))
            self.tells([("loop", "n", [("say", "n"), DOWN])], {"n": many}, said, {"n": 0}, 3 * many + 1)

    def test_an_again_whose_test_is_0_at_first(self):
        self.tells([("again", "t", [("say", 1)]), ("say", 2)], {}, [1, 2], {}, 3)

    def test_an_again_whose_test_its_own_rows_set(self):
        self.tells([("again", "n", [("say", "n"), DOWN])], {"n": 1}, [1], {"n": 0}, 3)

    def test_an_again_that_goes_round_several_times(self):
        for many in range(2, 7):
            said = list(range(many, 0, -1))
            self.tells([("again", "n", [("say", "n"), DOWN])], {"n": many}, said, {"n": 0}, 3 * many)

    def test_an_again_counts_down_from_0_by_way_of_999999(self):
        rows = [("again", "t", [DOWN, ("say", "n"), ("let", "t", "<", 999998, "n")])]
        self.tells(rows, {}, [999999, 999998], {"n": 999998, "t": 0}, 8)

    def test_empty_blocks(self):
        self.tells([("when", "t", [])], {}, [], {}, 1)
        self.tells([("when", "t", [])], {"t": 4}, [], {"t": 4}, 1)
        self.tells([("loop", "t", [])], {}, [], {}, 1)
        self.tells([("again", "t", [])], {}, [], {}, 1)

    def test_what_any_value_but_0_does(self):
        for worth in (1, 2, 999999):
            rows = [(word, "t", [("say", "t"), ("let", "t", "+", 0, 0)]) for word in BLOCKS]
            for row, steps in zip(rows, (3, 4, 3)):
                self.tells([row], {"t": worth}, [worth], {"t": 0}, steps)

    def test_the_test_is_asked_behind_what_the_rows_set(self):
        self.tells([("loop", "t", [("let", "t", "*", 0, 0), ("say", 1)])], {"t": 5}, [1], {"t": 0}, 4)
        self.tells([("when", "t", [("let", "t", "*", 0, 0), ("say", 1)])], {"t": 5}, [1], {"t": 0}, 3)

    def test_blocks_within_blocks(self):
        inner = ("loop", "m", [("say", "m"), ("let", "m", "-", "m", 1)])
        rows = [("loop", "n", [("let", "m", "+", "n", 0), inner, DOWN]), ("say", 9)]
        # Three rounds: a test, two lets and the inner loop, which takes three steps a round and one more.
        self.tells(rows, {"n": 3}, [3, 2, 1, 2, 1, 1, 9], {"n": 0, "m": 0}, 3 * 4 + 3 * 6 + 2)

    def test_each_kind_of_block_within_each(self):
        steps = {("when", "when"): 3, ("when", "loop"): 3, ("when", "again"): 3,
                 ("loop", "when"): 4, ("loop", "loop"): 4, ("loop", "again"): 4,
                 ("again", "when"): 3, ("again", "loop"): 3, ("again", "again"): 3}
        for outer in BLOCKS:
            for word in BLOCKS:
                with self.subTest(outer=outer, inner=word):
                    inner = (word, "s", [("let", "t", "*", 0, 0)])
                    values = {"t": 0, "s": 1}
                    if word == "when":
                        self.tells([(outer, "t", [inner])], {"t": 1, "s": 1}, [], values, steps[outer, word])
                    else:
                        inner = (word, "t", [("let", "t", "*", 0, 0)])
                        many = steps[outer, word] + (1 if word == "loop" else 0)
                        self.tells([(outer, "t", [inner])], {"t": 1}, [], {"t": 0}, many)

    def test_rows_of_an_inner_block_are_done_once_more_in_each_round(self):
        rows = [("again", "n", [("when", "n", [("say", 1)]), ("say", 2), DOWN])]
        self.tells(rows, {"n": 2}, [1, 2, 1, 2], {"n": 0}, 10)

    def test_blocks_twice_as_deep_as_checked_takes(self):
        inner = [("let", "t", "*", 0, 0), ("say", 7)]
        for deep in (20, 40, 45):
            self.tells(nested(deep, inner, "when", "t"), {"t": 1}, [7], {"t": 0}, deep + 2)
            self.tells(nested(deep, inner, "loop", "t"), {"t": 1}, [7], {"t": 0}, 2 * deep + 2)
            self.tells(nested(deep, inner, "again", "t"), {"t": 1}, [7], {"t": 0}, deep + 2)

    def test_many_rows(self):
        self.tells([("when", "t", [("say", 1)] * 30)] * 100, {}, [], {}, 100)
        self.assertEqual(run([("say", 1)] * 3000, {}, 1000), ([1] * 1000, "too long", None, 1000))


class TooLong(Runs):
    def each_most(self, rows, given, whole):
        """One step less than are wanted ends too long, with just as many steps, and any other number does, too."""
        said, ending, values, steps = whole
        self.assertEqual(self.ran(rows, given, steps), whole)
        self.assertEqual(self.ran(rows, given, steps + 1), whole)
        last = 0
        for most in range(steps):
            told = self.ran(rows, given, most)
            self.assertEqual(told, (told[0], "too long", None, most))
            self.assertEqual(told[0], said[:len(told[0])])
            self.assertLessEqual(last, len(told[0]))
            last = len(told[0])

    def test_most_of_0(self):
        for rows in ([("say", 1)], [("let", "x", "+", 1, 1)], [("let", "x", "/", 1, 0)],
                     [("when", "t", [])], [("loop", "t", [])], [("again", "t", [])], [("again", "t", [("say", 1)])]):
            with self.subTest(rows=rows):
                self.assertEqual(self.ran(rows, {"t": 1}, 0), ([], "too long", None, 0))
        self.assertEqual(self.ran([], {"t": 1}, 0), ([], "done", {"t": 1}, 0))

    def test_just_as_many_as_are_wanted_one_less_and_one_more(self):
        for rows, given, whole in (
            ([("say", 1)], {}, ([1], "done", {}, 1)),
            ([("say", 1), ("say", 2), ("say", 3)], {}, ([1, 2, 3], "done", {}, 3)),
            ([("let", "x", "+", 1, 1), ("say", "x")], {}, ([2], "done", {"x": 2}, 2)),
            ([("when", "t", [("say", 1)]), ("say", 2)], {"t": 1}, ([1, 2], "done", {"t": 1}, 3)),
            ([("when", "t", [("say", 1)])], {}, ([], "done", {}, 1)),
            ([("loop", "n", [("say", "n"), DOWN])], {"n": 2}, ([2, 1], "done", {"n": 0}, 7)),
            ([("again", "n", [("say", "n"), DOWN])], {"n": 2}, ([2, 1], "done", {"n": 0}, 6)),
            ([("say", 5), ("let", "x", "/", 1, 0), ("say", 6)], {}, ([5], "by nought", None, 2)),
        ):
            with self.subTest(rows=rows):
                self.each_most(rows, given, whole)

    def test_what_was_said_by_then(self):
        rows = [("loop", "n", [("say", "n"), DOWN])]
        for most, said in ((0, []), (1, []), (2, [3]), (3, [3]), (4, [3]), (5, [3, 2]), (8, [3, 2, 1]), (9, [3, 2, 1])):
            self.assertEqual(self.ran(rows, {"n": 3}, most), (said, "too long", None, most))
        self.assertEqual(self.ran(rows, {"n": 3}, 10), ([3, 2, 1], "done", {"n": 0}, 10))

    def test_rows_behind_the_end_are_not_done(self):
        for word in BLOCKS:
            rows = [(word, "t", [("say", 1), ("say", 2)]), ("say", 3)]
            most = 1 if word == "again" else 2
            self.assertEqual(self.ran(rows, {"t": 1}, most), ([1], "too long", None, most))

    def test_blocks_without_end(self):
        for word in ("loop", "again"):
            for body in ([], [("let", "x", "+", "x", 1)], [("when", "q", [])], [("when", "t", [])]):
                for most in (0, 1, 7, 1000):
                    self.assertEqual(self.ran([(word, "t", body)], {"t": 1}, most), ([], "too long", None, most))
        self.assertEqual(self.ran([("loop", "t", [("say", 5)])], {"t": 1}, 9), ([5] * 4, "too long", None, 9))
        self.assertEqual(self.ran([("again", "t", [("say", 5)])], {"t": 1}, 9), ([5] * 5, "too long", None, 9))

    def test_a_thousand_steps(self):
        self.assertEqual(self.ran([("say", 1)] * 1000, {}, 1000), ([1] * 1000, "done", {}, 1000))
        self.assertEqual(self.ran([("say", 1)] * 1001, {}, 1000), ([1] * 1000, "too long", None, 1000))
        # Nothing refuses somewhat more.
        self.assertEqual(self.ran([("say", 1)] * 1001, {}, 1001), ([1] * 1001, "done", {}, 1001))


class ByNought(Runs):
    def test_a_number_and_a_name(self):
        for one in (0, 1, 999999, "p"):
            self.assertEqual(self.ran([("let", "x", "/", one, 0)], {"p": 5}), ([], "by nought", None, 1))
            self.assertEqual(self.ran([("let", "x", "/", one, "q")], {"p": 5}), ([], "by nought", None, 1))
            self.assertEqual(self.ran([("let", "x", "/", one, "q")], {"q": 0}), ([], "by nought", None, 1))

    def test_by_what_a_row_ahead_set(self):
        rows = [("let", "q", "-", 5, 5), ("let", "x", "/", 1, "q")]
        self.assertEqual(self.ran(rows, {"q": 3}), ([], "by nought", None, 2))
        self.tells([("let", "q", "-", 5, 4), ("let", "x", "/", 7, "q")], {}, [], {"q": 1, "x": 7}, 2)

    def test_other_signs_take_0(self):
        for sign in SIGNS[:-1]:
            self.assertEqual(self.ran([("let", "x", sign, 1, 0)])[1], "done")

    def test_what_was_said_ahead_of_it(self):
        rows = [("say", 4), ("let", "x", "/", 1, 0), ("say", 5)]
        self.assertEqual(self.ran(rows), ([4], "by nought", None, 2))

    def test_rows_behind_it_are_not_done(self):
        fails = ("let", "x", "/", 1, "q")
        for word in BLOCKS:
            rows = [(word, "t", [("say", 1), fails, ("say", 2)]), ("say", 3)]
            self.assertEqual(self.ran(rows, {"t": 1}), ([1], "by nought", None, 2 if word == "again" else 3))

    def test_in_a_later_round(self):
        rows = [("loop", "t", [("let", "x", "/", 6, "n"), ("say", "x"), DOWN])]
        self.assertEqual(self.ran(rows, {"t": 1, "n": 2}), ([3, 6], "by nought", None, 10))

    def test_the_step_counts(self):
        rows = [("say", 4), ("let", "x", "/", 1, 0)]
        self.assertEqual(self.ran(rows, {}, 2), ([4], "by nought", None, 2))
        self.assertEqual(self.ran(rows, {}, 1), ([4], "too long", None, 1))

    def test_blocks_that_are_not_entered_do_not_fail(self):
        for word in ("when", "loop"):
            self.tells([(word, "t", [("let", "x", "/", 1, 0)])], {}, [], {}, 1)

    def test_to_gets_nothing(self):
        given = {"x": 5}
        self.assertEqual(self.ran([("let", "x", "/", "x", 0), ("say", "x")], given), ([], "by nought", None, 1))
        self.assertEqual(given, {"x": 5})


class Interface(unittest.TestCase):
    def test_it_is_defined_in_its_file(self):
        self.assertEqual(running.run.__module__, "loopmover.running")

    def test_how_its_arguments_are_called(self):
        self.assertEqual(run(rows=[("say", "a")], given={"a": 2}, most=5), ([2], "done", {"a": 2}, 1))

    def test_it_goes_somewhat_beyond_limits(self):
        given = {"longname": 1000000}
        self.assertEqual(run([("say", "longname")], given, 5), ([1000000], "done", given, 1))
        self.assertEqual(run([("let", "x", "+", "longname", 1000001)], given, 5)[2]["x"], 1)
        self.assertEqual(run([("say", 1)], {}, -1), ([], "too long", None, 0))
        self.assertEqual(run([], {}, -1), ([], "done", {}, 0))


if __name__ == "__main__":
    unittest.main()
