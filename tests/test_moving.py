"""The moved program, row by row."""

import copy
import unittest

from helpers import nested
from loopmover import moving
from loopmover.moving import moved
from loopmover.rows import checked
from programs import lists_in, programs, spoil

BLOCKS = ("when", "loop", "again")
FREE = ("let", "x", "+", "p", 1)
OTHER = ("let", "y", "*", "x", 2)
SAY = ("say", "y")
DOWN = ("let", "n", "-", "n", 1)


class Moves(unittest.TestCase):
    def moves(self, rows, answer):
        """The moved program, twice, with the program as it was; moved once more it is the same."""
        before = copy.deepcopy(rows)
        for _ in range(2):
            told = moved(rows)
            self.assertIs(type(told), list)
            self.assertEqual(told, answer)
            self.assertEqual(rows, before)
        self.assertEqual(moved(answer), answer)

    def stays(self, rows):
        self.moves(rows, rows)


class EachRow(Moves):
    def test_the_empty_program(self):
        self.stays([])

    def test_lets_and_says(self):
        self.stays([FREE, SAY, OTHER, DOWN, ("let", "z", "/", 1, 0), ("say", 5), FREE])

    def test_a_when(self):
        self.stays([("when", "t", [])])
        self.stays([("when", "t", [FREE, SAY, OTHER])])

    def test_rows_of_a_program_are_no_body(self):
        self.stays([SAY, FREE, DOWN, OTHER])

    def test_an_again_where_none_goes_ahead(self):
        self.stays([("again", "n", [])])
        self.stays([("again", "n", [SAY, DOWN])])

    def test_an_again_where_some_go_ahead(self):
        self.moves([("again", "n", [FREE, SAY, DOWN])], [FREE, ("again", "n", [SAY, DOWN])])
        self.moves([("again", "n", [SAY, FREE, DOWN])], [FREE, ("again", "n", [SAY, DOWN])])
        self.moves([("again", "n", [FREE, SAY, OTHER, DOWN])], [FREE, ("again", "n", [SAY, OTHER, DOWN])])
        self.moves([("again", "n", [DOWN, FREE, OTHER])], [FREE, OTHER, ("again", "n", [DOWN])])

    def test_an_again_where_all_go_ahead(self):
        self.moves([("again", "n", [FREE, OTHER])], [FREE, OTHER, ("again", "n", [])])

    def test_a_loop_where_none_goes_ahead(self):
        self.stays([("loop", "n", [])])
        self.stays([("loop", "n", [SAY, DOWN])])

    def test_a_loop_where_some_go_ahead(self):
        self.moves([("loop", "n", [FREE, SAY, DOWN])], [("when", "n", [FREE, ("again", "n", [SAY, DOWN])])])
        self.moves([("loop", "n", [SAY, FREE, DOWN])], [("when", "n", [FREE, ("again", "n", [SAY, DOWN])])])
        self.moves([("loop", "n", [DOWN, FREE, OTHER])], [("when", "n", [FREE, OTHER, ("again", "n", [DOWN])])])

    def test_a_loop_where_all_go_ahead(self):
        self.moves([("loop", "n", [FREE, OTHER])], [("when", "n", [FREE, OTHER, ("again", "n", [])])])

    def test_the_test_of_the_loop_is_no_row(self):
        sets_test = ("let", "n", "+", "p", 0)
        self.moves([("loop", "n", [SAY, sets_test])], [("when", "n", [sets_test, ("again", "n", [SAY])])])
        self.moves([("again", "n", [SAY, sets_test])], [sets_test, ("again", "n", [SAY])])

    def test_rows_around_them(self):
        loop = ("loop", "n", [FREE, DOWN])
        again = ("again", "n", [FREE, DOWN])
        done = ("when", "n", [FREE, ("again", "n", [DOWN])])
        self.moves([SAY, loop, OTHER], [SAY, done, OTHER])
        self.moves([SAY, again, OTHER], [SAY, FREE, ("again", "n", [DOWN]), OTHER])
        self.moves([loop, again, loop], [done, FREE, ("again", "n", [DOWN]), done])

    def test_the_same_row_stands_ahead_as_often_as_it_goes_ahead(self):
        again = ("again", "n", [FREE])
        self.moves([again, again], [FREE, ("again", "n", []), FREE, ("again", "n", [])])


class WithinBlocks(Moves):
    def test_in_a_when(self):
        self.moves([("when", "t", [SAY, ("again", "n", [FREE, DOWN])])],
                   [("when", "t", [SAY, FREE, ("again", "n", [DOWN])])])
        self.moves([("when", "t", [("loop", "n", [FREE, DOWN])])],
                   [("when", "t", [("when", "n", [FREE, ("again", "n", [DOWN])])])])

    def test_what_goes_ahead_of_an_inner_again_may_go_ahead_of_the_outer_one(self):
        inner = ("again", "n", [FREE, DOWN])
        self.moves([("again", "t", [SAY, inner])], [FREE, ("again", "t", [SAY, ("again", "n", [DOWN])])])
        self.moves([("loop", "t", [SAY, inner])],
                   [("when", "t", [FREE, ("again", "t", [SAY, ("again", "n", [DOWN])])])])

    def test_it_goes_ahead_of_three_agains(self):
        rows = [("again", "c", [("again", "b", [("again", "a", [FREE, SAY])])])]
        self.moves(rows, [FREE, ("again", "c", [("again", "b", [("again", "a", [SAY])])])])

    def test_it_goes_only_as_far_as_it_may(self):
        inner = ("again", "n", [FREE, DOWN])
        up = ("let", "p", "+", "p", 1)
        self.moves([("again", "t", [SAY, inner, up])], [("again", "t", [SAY, FREE, ("again", "n", [DOWN]), up])])

    def test_it_is_not_looked_at_ahead_of_the_inner_rows_being_moved(self):
        # The inner x = p + 1 goes ahead of both, so that it stands ahead of what reads it and lets that go, too.
        inner = ("again", "n", [FREE, DOWN])
        self.moves([("again", "t", [inner, OTHER])], [FREE, OTHER, ("again", "t", [("again", "n", [DOWN])])])

    def test_what_goes_ahead_of_an_inner_loop_goes_no_further(self):
        inner = ("loop", "n", [FREE, DOWN])
        done = ("when", "n", [FREE, ("again", "n", [DOWN])])
        self.moves([("again", "t", [SAY, inner])], [("again", "t", [SAY, done])])
        self.moves([("loop", "t", [SAY, inner])], [("loop", "t", [SAY, done])])
        self.moves([("loop", "t", [inner, ("let", "w", "+", 1, 1)])],
                   [("when", "t", [("let", "w", "+", 1, 1), ("again", "t", [done])])])

    def test_a_let_in_a_when_goes_no_further(self):
        for word in ("loop", "again"):
            self.stays([(word, "t", [("when", "s", [FREE])])])

    def test_an_inner_loop_where_none_goes_ahead(self):
        inner = ("loop", "n", [SAY, DOWN])
        self.moves([("loop", "t", [inner, FREE])], [("when", "t", [FREE, ("again", "t", [inner])])])


class Depth(Moves):
    def doubled(self, deep):
        """What becomes of `deep` loops in one another with a let at the head of each, by its own name."""
        rows, answer = [], []
        for at in range(deep):
            name = "abcdefghij"[at // 10] + "abcdefghij"[at % 10]
            let, test = ("let", name + "x", "+", 1, 1), name + "t"
            rows = [("loop", test, [let] + rows)]
            answer = [("when", test, [let, ("again", test, answer)])]
        return rows, answer

    def test_a_program_in_20_blocks_becomes_40_deep(self):
        rows, answer = self.doubled(20)
        self.assertEqual(checked(rows), 40)
        self.moves(rows, answer)
        self.assertEqual(self.depth(moved(rows)), 40)

    def depth(self, rows):
        return max([0] + [1 + self.depth(row[2]) for row in rows if row[0] in BLOCKS])

    def test_a_program_twice_as_deep_is_taken(self):
        for deep in (1, 2, 21, 40, 45):
            self.moves(*self.doubled(deep))
        for word in BLOCKS:
            self.stays(nested(40, [("say", 1)], word))

    def test_a_let_goes_ahead_of_40_agains(self):
        self.moves(nested(40, [FREE, SAY], "again", "t"), [FREE] + nested(40, [SAY], "again", "t"))

    def test_no_program_is_more_than_twice_as_deep(self):
        for rows in programs(500, 2):
            self.assertLessEqual(self.depth(moved(rows)), 2 * self.depth(rows))

    def test_many_rows(self):
        again = ("again", "n", [FREE, SAY, DOWN])
        self.moves([again] * 900, [FREE, ("again", "n", [SAY, DOWN])] * 900)
        self.stays([("when", "t", [SAY] * 30)] * 100)


class OwnLists(Moves):
    def own(self, rows):
        before = copy.deepcopy(rows)
        told = moved(rows)
        answer = copy.deepcopy(told)
        theirs = [id(part) for part in lists_in(rows)]
        mine = [id(part) for part in lists_in(told)]
        for part in mine:
            self.assertNotIn(part, theirs)
        self.assertEqual(len(set(mine)), len(mine))
        spoil(told)
        self.assertEqual(rows, before)
        self.assertEqual(moved(rows), answer)

    def test_at_any_depth(self):
        body = [FREE, SAY, DOWN]
        for word in BLOCKS:
            for inner in BLOCKS:
                self.own([])
                self.own([(word, "t", [])])
                self.own([(word, "t", [SAY, (inner, "n", [])])])
                self.own([(word, "t", [SAY, (inner, "n", body)])])
                # The same list at two places becomes two.
                self.own([(word, "t", body), (inner, "t", [(inner, "n", body)])])

    def test_many_programs(self):
        for rows in programs(300, 3):
            self.own(rows)


class Interface(unittest.TestCase):
    def test_it_is_defined_in_its_file(self):
        self.assertEqual(moving.moved.__module__, "loopmover.moving")

    def test_the_argument_is_called_rows(self):
        self.assertEqual(moved(rows=[("again", "n", [FREE])]), [FREE, ("again", "n", [])])


if __name__ == "__main__":
    unittest.main()
