"""What holds of every moved program: it says and ends the same, by no more steps."""

import unittest

from loopmover.moving import moved
from loopmover.running import run
from programs import givens, programs

MOSTS = (0, 1, 2, 3, 5, 8, 13, 21, 40, 100, 1000)
DOWN = ("let", "n", "-", "n", 1)


class Samenesses(unittest.TestCase):
    def same(self, rows, given, most):
        """The run of a program that is not too long, and its moved one's."""
        told = run(rows, given, most)
        other = run(moved(rows), given, most)
        if told[1] != "too long":
            self.assertEqual(other[:3], told[:3], (rows, given, most))
            self.assertLessEqual(other[3], told[3], (rows, given, most))
        return told, other

    def steps(self, rows, given, before, after):
        """How many steps are done, in the program and in the moved one."""
        told, other = self.same(rows, given, 1000)
        self.assertEqual((told[3], other[3]), (before, after))
        for most in range(before + 2):
            self.same(rows, given, most)
        return other


class Loops(Samenesses):
    def test_a_let_is_done_once(self):
        body = [("let", "x", "*", "p", 2), ("say", "x"), DOWN]
        for many in range(1, 6):
            self.steps([("loop", "n", body)], {"n": many, "p": 4}, 4 * many + 1, 3 * many + 2)
            self.steps([("again", "n", body)], {"n": many, "p": 4}, 4 * many, 3 * many + 1)

    def test_a_loop_that_is_never_entered(self):
        for row in (("let", "x", "*", "p", 2), ("let", "x", "/", "p", 0), ("let", "x", "/", "p", "n")):
            other = self.steps([("loop", "n", [row, ("say", "x"), DOWN]), ("say", "x")], {}, 2, 2)
            self.assertEqual(other, ([0], "done", {}, 2))

    def test_a_let_that_sets_the_test(self):
        rows = [("loop", "n", [("say", "n"), ("let", "m", "+", "n", 0), ("let", "n", "*", 0, 0)])]
        self.steps(rows, {"n": 3}, 5, 5)
        other = self.steps([("loop", "n", [("say", 7), ("let", "n", "*", 0, 0)])], {"n": 3}, 4, 4)
        self.assertEqual(other, ([7], "done", {"n": 0}, 4))

    def test_division_by_0_in_a_loop(self):
        by_0 = ("let", "x", "/", "p", 0)
        for rows, said in (([by_0, ("say", 1)], []), ([("say", 1), by_0], [1]), ([DOWN, by_0], []),
                           ([("say", 1), ("let", "y", "+", 1, 1), by_0], [1]),
                           ([by_0, ("let", "y", "+", 1, 1)], []), ([("let", "y", "+", 1, 1), by_0], [])):
            for word in ("loop", "again"):
                told, other = self.same([(word, "n", rows)], {"n": 3}, 1000)
                self.assertEqual(told[:3], (said, "by nought", None))
                self.assertEqual(other[:3], told[:3])

    def test_division_by_0_ahead_of_a_loop(self):
        rows = [("say", 1), ("let", "x", "/", 1, 0), ("loop", "n", [("let", "y", "+", 1, 1), DOWN])]
        self.assertEqual(self.steps(rows, {"n": 2}, 2, 2), ([1], "by nought", None, 2))

    def test_division_by_0_in_a_later_round(self):
        rows = [("loop", "t", [("let", "y", "*", "p", 2), ("say", "y"), ("let", "x", "/", 6, "n"), DOWN])]
        other = self.steps(rows, {"t": 1, "n": 2, "p": 5}, 14, 12)
        self.assertEqual(other[:3], ([10, 10, 10], "by nought", None))

    def test_what_was_too_long_may_be_done(self):
        rows = [("again", "n", [("let", "x", "*", "p", 2), DOWN])]
        told, other = self.same(rows, {"n": 5, "p": 1}, 11)
        self.assertEqual(told, ([], "too long", None, 11))
        self.assertEqual(other, ([], "done", {"n": 0, "p": 1, "x": 2}, 11))


class Everything(Samenesses):
    def test_many_programs(self):
        endings = {}
        for at, rows in enumerate(programs(1500, 4)):
            for given in givens(at):
                for most in MOSTS:
                    told, other = self.same(rows, given, most)
                    kind = (told[1], other[3] < told[3])
                    endings[kind] = endings.get(kind, 0) + 1
        # Each ending must have come about often, some of them by fewer steps.
        for kind in (("done", False), ("done", True), ("by nought", False), ("too long", False)):
            self.assertGreater(endings.get(kind, 0), 50, kind)

    def test_moved_once_more(self):
        changed = 0
        for rows in programs(2500, 5):
            told = moved(rows)
            changed += 1 if told != rows else 0
            self.assertEqual(moved(told), told, rows)
        self.assertGreater(changed, 300)


if __name__ == "__main__":
    unittest.main()
