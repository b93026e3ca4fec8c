"""Which rows of a body go ahead of it, and which stay."""

import copy
import unittest

from helpers import nested
from loopmover import moving
from loopmover.moving import parted
from loopmover.rows import may_fail, reads, sets, speaks
from programs import lists_in, programs, spoil

BLOCKS = ("when", "loop", "again")
SIGNS = ("+", "-", "*", "<", "/")
FREE = ("let", "x", "+", "p", 1)


def within(row):
    """The row itself, and blocks in which it stands, at several depths."""
    found = [row]
    for word in BLOCKS:
        found.append((word, "z", [row]))
        found.append((word, "z", [("let", "zz", "+", 1, 1), (word, "zzz", [row])]))
    return found


class Partings(unittest.TestCase):
    def parts(self, body, ahead, stay):
        """The two lists, twice, with the body as it was."""
        before = copy.deepcopy(body)
        for _ in range(2):
            answer = parted(body)
            self.assertIs(type(answer), tuple)
            self.assertEqual([type(rows) for rows in answer], [list, list])
            self.assertEqual(answer, (ahead, stay))
            self.assertEqual(body, before)

    def all_stay(self, body):
        self.parts(body, [], body)

    def all_ahead(self, body):
        self.parts(body, body, [])

    def stays_behind(self, first, row):
        """A row that would go ahead by itself, but does not behind another one, nor behind that one in a block."""
        self.all_ahead([row])
        for one in within(first):
            with self.subTest(ahead_of_it=one):
                self.all_stay([one, row])
                self.all_stay([("say", 1), one, ("say", 2), row])

    def goes_ahead_behind(self, first, row):
        """A row goes ahead all the same, behind one that stays, or behind that one in a block."""
        for one in within(first):
            with self.subTest(ahead_of_it=one):
                self.parts([one, row], [row], [one])


class Plain(Partings):
    def test_the_empty_body(self):
        self.parts([], [], [])

    def test_a_let_of_numbers_or_of_names_that_nothing_sets(self):
        for sign in SIGNS:
            for one in (0, 5, "p"):
                for other in (0, 5, "p", "q"):
                    self.all_ahead([("let", "x", sign, one, other)])

    def test_several_lets_in_order(self):
        body = [("let", "c", "+", "p", 1), ("let", "a", "*", "q", 2),
                ("let", "b", "/", 7, "p"), ("let", "d", "-", 0, 1)]
        self.all_ahead(body)
        self.all_ahead(body[::-1])

    def test_both_lists_in_order(self):
        lets = [("let", name, "+", "p", 1) for name in ("d", "b", "c", "a")]
        says = [("say", number) for number in (4, 1, 3, 2)]
        body = [lets[0], says[0], says[1], lets[1], lets[2], says[2], lets[3], says[3]]
        self.parts(body, lets, says)

    def test_the_loops_own_test_is_no_row(self):
        # Whatever the test is called, `parted` does not know it: a let that sets it goes ahead as another one does.
        self.all_ahead([("let", "t", "-", 0, 0)])
        self.parts([("say", 1), ("let", "t", "-", 0, 0)], [("let", "t", "-", 0, 0)], [("say", 1)])


class OnlyLets(Partings):
    def test_a_say_stays(self):
        self.all_stay([("say", 1)])
        self.all_stay([("say", "p")])
        self.parts([("say", "p"), FREE], [FREE], [("say", "p")])
        self.parts([FREE, ("say", "p")], [FREE], [("say", "p")])

    def test_a_block_stays(self):
        for word in BLOCKS:
            for rows in ([], [("say", 1)], [("let", "y", "+", "q", 1)]):
                with self.subTest(word=word, rows=rows):
                    self.all_stay([(word, "p", rows)])
                    self.parts([(word, "p", rows), FREE], [FREE], [(word, "p", rows)])
                    self.parts([FREE, (word, "p", rows)], [FREE], [(word, "p", rows)])

    def test_rows_of_blocks_are_not_looked_at(self):
        for word in ("loop", "again"):
            inner = (word, "p", [FREE, ("say", 1), ("let", "y", "+", 1, 1)])
            self.parts([inner, ("let", "w", "+", 1, 1)], [("let", "w", "+", 1, 1)], [inner])


class WhatItReads(Partings):
    def test_set_by_itself(self):
        for sign in SIGNS[:-1]:
            self.all_stay([("let", "x", sign, "x", 1)])
            self.all_stay([("let", "x", sign, 1, "x")])
            self.all_stay([("let", "x", sign, "x", "x")])
        self.all_stay([("let", "x", "/", "x", 2)])

    def test_set_by_a_row_that_stays_ahead_of_it(self):
        changing = ("let", "y", "+", "y", 1)
        for row in (("let", "x", "+", "y", 1), ("let", "x", "+", 1, "y"), ("let", "x", "<", "y", "y")):
            self.stays_behind(changing, row)
        self.goes_ahead_behind(changing, ("let", "x", "+", "p", 1))

    def test_set_by_a_let_in_a_block_ahead_of_it(self):
        for word in BLOCKS:
            row = ("let", "x", "+", "y", 1)
            self.all_stay([(word, "z", [("let", "y", "+", 1, 1)]), row])
            other = (word, "z", [("let", "w", "+", 1, 1)])
            self.parts([other, row], [row], [other])

    def test_set_by_a_row_behind_it(self):
        row = ("let", "x", "+", "y", 1)
        for one in within(("let", "y", "+", "q", 1)):
            with self.subTest(behind_it=one):
                self.all_stay([row, one])
                self.all_stay([row, ("say", 1), one])
        for one in within(("let", "y", "+", "y", 1)):
            self.all_stay([row, one])

    def test_set_by_a_row_that_goes_ahead(self):
        first, second, third = ("let", "y", "+", "p", 1), ("let", "x", "*", "y", "y"), ("let", "w", "-", "x", "y")
        self.all_ahead([first, second])
        self.all_ahead([first, second, third])
        self.parts([("say", 1), first, ("say", 2), second, third], [first, second, third], [("say", 1), ("say", 2)])

    def test_a_row_that_stays_keeps_those_that_read_what_it_sets(self):
        body = [("let", "y", "+", "y", 1), ("let", "x", "+", "y", 1), ("let", "w", "+", "x", 1)]
        self.all_stay(body)
        self.parts(body + [("let", "v", "+", "p", 1)], [("let", "v", "+", "p", 1)], body)

    def test_set_only_by_rows_that_go_ahead_but_also_behind(self):
        # The second one sets what the first one reads: it stays, since a row that stays ahead reads its name.
        self.all_stay([("let", "x", "+", "y", 1), ("let", "y", "+", "p", 1)])
        self.parts([("let", "x", "+", "y", 1), ("let", "y", "+", "p", 1), ("let", "w", "+", "p", 1)],
                   [("let", "w", "+", "p", 1)], [("let", "x", "+", "y", 1), ("let", "y", "+", "p", 1)])


class WhatItSets(Partings):
    def test_set_by_another_row_ahead_of_it_that_stays(self):
        let = ("let", "x", "+", 1, 1)
        for word in BLOCKS:
            self.all_stay([(word, "z", [let]), FREE])
            self.all_stay([(word, "z", [(word, "zz", [("say", 1), let])]), FREE])
        # The second row stays because of what it reads; the last one only because the second sets its name.
        self.all_stay([("let", "y", "+", "y", 1), ("let", "x", "+", "y", 1), FREE])

    def test_set_by_another_row_behind_it(self):
        for one in within(("let", "x", "+", "q", 1)):
            with self.subTest(behind_it=one):
                self.all_stay([FREE, one])
                self.all_stay([FREE, ("say", 1), one])

    def test_set_by_the_very_same_row_once_more(self):
        self.all_stay([FREE, FREE])
        self.all_stay([FREE, FREE, FREE])
        self.all_stay([FREE, ("when", "z", [FREE])])
        self.all_stay([("when", "z", [FREE]), FREE])

    def test_another_name(self):
        for one in within(("let", "y", "+", "y", 1)):
            self.parts([FREE, one], [FREE], [one])
            self.parts([one, FREE], [FREE], [one])


class WhoReadsIt(Partings):
    def test_read_by_a_row_that_stays_ahead_of_it(self):
        for first in (("say", "x"), ("let", "y", "+", "x", "y"), ("let", "y", "+", "y", "x")):
            self.stays_behind(first, FREE)

    def test_read_as_a_test(self):
        for word in BLOCKS:
            self.stays_behind((word, "x", []), FREE)
            self.stays_behind((word, "x", [("say", 1)]), FREE)

    def test_read_by_a_row_behind_it(self):
        for one in within(("say", "x")) + [(word, "x", []) for word in BLOCKS] + [("let", "y", "+", "y", "x")]:
            with self.subTest(behind_it=one):
                self.parts([FREE, one], [FREE], [one])

    def test_read_by_a_let_ahead_of_it_that_would_otherwise_go_ahead(self):
        self.all_stay([("let", "y", "+", "x", 1), FREE])

    def test_another_name_is_read(self):
        for first in (("say", "p"), ("say", "y"), ("say", 1), ("let", "y", "+", "p", "y")):
            self.goes_ahead_behind(first, FREE)
        for word in BLOCKS:
            self.goes_ahead_behind((word, "p", []), FREE)


class RowsThatMayFail(Partings):
    def test_behind_one_that_stays(self):
        for first in (("let", "y", "/", "y", "q"), ("let", "y", "/", "y", 0)):
            self.stays_behind(first, FREE)
            self.stays_behind(first, ("let", "x", "+", 1, 1))
            self.stays_behind(first, ("let", "x", "/", 1, "p"))

    def test_behind_one_in_a_block_that_would_go_ahead_by_itself(self):
        for first in within(("let", "y", "/", 1, "q"))[1:] + within(("let", "y", "/", 1, 0))[1:]:
            self.all_stay([first, FREE])

    def test_behind_a_division_that_may_not_fail(self):
        for first in (("let", "y", "/", "y", 1), ("let", "y", "/", "y", 999999), ("let", "y", "*", "y", 0)):
            self.goes_ahead_behind(first, FREE)

    def test_behind_one_that_goes_ahead(self):
        for first in (("let", "y", "/", 1, "q"), ("let", "y", "/", 1, 0)):
            self.all_ahead([first, FREE])
            self.parts([first, ("say", 1), FREE], [first, FREE], [("say", 1)])

    def test_ahead_of_one(self):
        for one in within(("let", "y", "/", "y", "q")) + within(("let", "y", "/", "y", 0)):
            self.parts([FREE, one], [FREE], [one])


class Failing(Partings):
    fails = (("let", "x", "/", "p", "q"), ("let", "x", "/", "p", 0), ("let", "x", "/", 5, "q"), ("let", "x", "/", 0, 0))

    def test_one_that_may_fail_behind_a_say(self):
        for row in self.fails:
            self.all_ahead([row])
            for one in within(("say", 1)) + within(("say", "s")):
                with self.subTest(ahead_of_it=one, row=row):
                    self.all_stay([one, row])

    def test_one_that_may_fail_ahead_of_a_say(self):
        for row in self.fails:
            for one in within(("say", 1)):
                self.parts([row, one], [row], [one])

    def test_one_that_may_not_fail_behind_a_say(self):
        for row in (("let", "x", "/", "p", 2), ("let", "x", "*", "p", 0), ("let", "x", "-", "p", "q")):
            self.goes_ahead_behind(("say", 1), row)

    def test_one_that_may_fail_behind_rows_that_do_not_speak(self):
        for row in self.fails:
            self.goes_ahead_behind(("let", "y", "+", "y", 1), row)
            for word in BLOCKS:
                self.goes_ahead_behind((word, "s", []), row)

    def test_one_that_stays_behind_a_say_keeps_what_stands_behind_it(self):
        for row in self.fails:
            self.all_stay([("say", 1), row, ("let", "w", "+", 1, 1)])
            self.parts([("say", 1), ("let", "w", "+", 1, 1), row], [("let", "w", "+", 1, 1)], [("say", 1), row])


class Deep(Partings):
    def test_rows_twice_as_deep_as_checked_takes(self):
        for deep in (20, 40, 45):
            for word in BLOCKS:
                block = nested(deep, [("say", "x")], word, "z")
                self.all_stay(block + [FREE])
                self.parts([FREE] + block, [FREE], block)
                self.all_stay(nested(deep, [("let", "p", "+", 1, 1)], word, "z") + [FREE])
                self.all_stay(nested(deep, [("let", "y", "/", 1, 0)], word, "z") + [FREE])
                self.all_stay(nested(deep, [("say", 1)], word, "z") + [Failing.fails[0]])
                block = nested(deep, [("say", 1)], word, "z")
                self.parts(block + [FREE], [FREE], block)

    def test_many_rows(self):
        names = [one + two + three for one in "abcdefghij" for two in "abcdefghij" for three in "abcdefghij"]
        ahead = [("let", name, "+", "q", 1) for name in names]
        stay = [("say", name + "z") for name in names]
        body = [row for pair in zip(stay, ahead) for row in pair]
        self.parts(body, ahead, stay)


class OwnLists(Partings):
    def test_at_any_depth(self):
        inner = [("say", 1), ("when", "s", [("say", 2), ("loop", "q", [("say", 3)])])]
        body = [FREE, ("loop", "z", inner), ("again", "z", inner), ("say", 1)]
        before = copy.deepcopy(body)
        ahead, stay = parted(body)
        theirs = [id(part) for part in lists_in(body)]
        for part in lists_in(ahead) + lists_in(stay):
            self.assertNotIn(id(part), theirs)
        self.assertEqual(len(set(map(id, lists_in(stay)))), len(lists_in(stay)))
        spoil(ahead)
        spoil(stay)
        self.assertEqual(body, before)
        self.parts(body, [FREE], before[1:])

    def test_empty_lists(self):
        body = []
        ahead, stay = parted(body)
        self.assertIsNot(ahead, stay)
        ahead.append(1)
        stay.append(2)
        self.assertEqual(body, [])
        self.parts(body, [], [])


class ByTheDocument(Partings):
    def goes(self, body, at, gone):
        """The six conditions, word by word."""
        row = body[at]
        if row[0] != "let":
            return False
        stay = [body[k] for k in range(at) if k not in gone]
        behind = body[at + 1:]
        return (not [name for name in reads([row]) if name in sets(stay + [row] + behind)]
                and row[1] not in sets(stay + behind)
                and row[1] not in reads(stay)
                and not may_fail(stay)
                and (not may_fail([row]) or not speaks(stay)))

    def expected(self, body):
        gone = []
        for at in range(len(body)):
            if self.goes(body, at, gone):
                gone.append(at)
        return [body[k] for k in gone], [body[k] for k in range(len(body)) if k not in gone]

    def test_many_bodies(self):
        both = 0
        for body in programs(4000, 1):
            ahead, stay = self.expected(body)
            both += 1 if ahead and stay else 0
            self.assertEqual(parted(body), (ahead, stay), body)
        self.assertGreater(both, 200)


class Interface(unittest.TestCase):
    def test_it_is_defined_in_its_file(self):
        self.assertEqual(moving.parted.__module__, "loopmover.moving")

    def test_the_argument_is_called_body(self):
        self.assertEqual(parted(body=[FREE, ("say", 1)]), ([FREE], [("say", 1)]))

    def test_names_somewhat_beyond_the_limit(self):
        body = [("let", "longname", "+", "longname", 1), ("let", "x", "+", "longname", 1),
                ("let", "y", "/", 1, "longother")]
        self.assertEqual(parted(body), ([body[2]], body[:2]))
        self.assertEqual(parted([("say", 1), body[2]]), ([], [("say", 1), body[2]]))


if __name__ == "__main__":
    unittest.main()
