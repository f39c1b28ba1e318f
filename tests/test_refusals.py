"""Points 2 and 3: what names and rows are, and which refusal comes ahead of which."""

import unittest

from stepcells.errors import NoMark, NoRow, TwoMarks
from stepcells.layout import lay, starts
from stepcells.machine import walked_rows
from tests.helper import brief

NAMES = [
    "a", "m", "z", "ab", "a0", "z9", "a1b2", "a00", "x" * 1000,
    "abcdefghijklmnopqrstuvwxyz0123456789",
    "mark", "grow", "tell", "jump", "when", "halt", "at12",
]

NO_NAMES = [
    "", "0", "1", "9a", "0a", "12",
    "A", "Z", "Ab", "aB", "abcD", "M1",
    " ", "a b", " a", "a ", "\t", "a\t", "\n", "a\n", "a\r", "a\x00", "\x00",
    "-", "a-b", "_", "_a", "a_b", "a:", ":", "a.b", "a+", "a/", "a`", "a{", "`a", "{a", "@", "a@", "a[",
    "\u00e9", "a\u00e9", "\u00df", "\u00aa", "a\u00aa", "\u0430", "a\u0430", "\uff41", "a\uff41", "\u0131", "a\u0131",
    "a\u00b2", "a\u0663", "a\uff11", "a\u0301", "a\u00a0", "a\u200b", "\U0001d41a", "a\U0001d7ce",
]

NO_ROWS = [
    ("",), ("rest",), ("rest", "a"), ("rest", 1), ("a",), ("1",), ("mark:",),
    ("Mark", "a"), ("MARK", "a"), ("marks", "a"), ("mar", "a"), (" mark", "a"), ("mark ", "a"), ("mark\n", "a"),
    ("Grow", 1), ("grow ", 1), ("gro", 1), ("Tell",), ("tell ",), ("tel",), (" halt",), ("HALT",), ("halts",),
    ("Jump", "a"), ("jumps", "a"), ("When", "a"), ("whe", "a"), ("jumpwhen", "a"), ("telltale",),
    ("mark",), ("mark", "a", "b"), ("mark", "b", 1), ("mark", "b", "b", "b"), ("mark", "b", ()),
    ("grow",), ("grow", 1, 2), ("grow", 1, "a"), ("grow", 1, 2, 3), ("grow", 10 ** 5000, 1),
    ("tell", 1), ("tell", "a"), ("tell", 10 ** 5000), ("tell", "a", "b"), ("tell", "tell"), ("tell", None),
    ("halt", 0), ("halt", "a"), ("halt", 1, 2),
    ("jump",), ("jump", "a", "a"), ("jump", "a", 1), ("jump", "a", "b", "c"),
    ("when",), ("when", "a", "a"), ("when", "a", 0), ("when", "a", "b", "c"),
]


def walked(rows):
    return walked_rows(rows, 0, 9)


def not_walked(rows):
    return walked_rows(rows, 0, 0)


class RefusalCase(unittest.TestCase):
    def refused(self, error, rows):
        before = list(rows)
        for call in (starts, lay, walked, not_walked):
            with self.subTest(call=call.__name__, rows=brief(rows)):
                with self.assertRaises(error) as caught:
                    call(rows)
                self.assertIs(caught.exception.__class__, error)
                self.assertTrue(rows == before)


class TestNames(RefusalCase):
    def test_names_are_let_by(self):
        for name in NAMES:
            with self.subTest(name=name):
                rows = [("mark", name), ("jump", name), ("when", name)]
                self.assertEqual(lay(rows), [4, -2, 6, -4])
                self.assertEqual(starts(rows), [0, 0, 2, 4])

    def test_no_name_in_a_mark(self):
        for name in NO_NAMES:
            self.refused(NoRow, [("mark", name)])

    def test_no_name_in_a_jump_or_when(self):
        for name in NO_NAMES:
            self.refused(NoRow, [("jump", name)])
            self.refused(NoRow, [("when", name)])

    def test_no_name_though_mark_and_jump_agree(self):
        for name in NO_NAMES:
            self.refused(NoRow, [("mark", name), ("jump", name), ("when", name)])

    def test_names_differ_by_each_sign(self):
        self.refused(NoMark, [("mark", "a1"), ("jump", "a")])
        self.refused(NoMark, [("mark", "a"), ("jump", "a1")])
        self.refused(NoMark, [("mark", "a0"), ("jump", "a00")])


class TestNoRow(RefusalCase):
    def test_each_way_to_be_no_row(self):
        for row in NO_ROWS:
            self.refused(NoRow, [row])

    def test_no_row_among_good_ones(self):
        good = [("mark", "a"), ("grow", 3), ("tell",), ("jump", "a"), ("when", "a"), ("halt",)]
        for row in NO_ROWS:
            for place in (0, 3, 6):
                self.refused(NoRow, good[:place] + [row] + good[place:])

    def test_every_word_with_its_own_parts_is_a_row(self):
        rows = [("mark", "a"), ("grow", 3), ("tell",), ("jump", "a"), ("when", "a"), ("halt",)]
        self.assertEqual(lay(rows), [1, 3, 2, 4, -5, 6, -7, 3])


class TestTwoMarks(RefusalCase):
    def test_two_marks(self):
        self.refused(TwoMarks, [("mark", "a"), ("mark", "a")])
        self.refused(TwoMarks, [("mark", "a"), ("tell",), ("mark", "b"), ("halt",), ("mark", "a")])
        self.refused(TwoMarks, [("mark", "a"), ("jump", "a"), ("mark", "a")])
        self.refused(TwoMarks, [("mark", "a"), ("mark", "a"), ("mark", "a")])
        self.refused(TwoMarks, [("mark", "b"), ("mark", "a"), ("mark", "c"), ("mark", "c")])

    def test_two_jumps_to_one_mark_are_let_by(self):
        self.assertEqual(lay([("jump", "a"), ("jump", "a"), ("mark", "a")]), [4, 2, 4, 0])


class TestNoMark(RefusalCase):
    def test_no_mark(self):
        self.refused(NoMark, [("jump", "a")])
        self.refused(NoMark, [("when", "a")])
        self.refused(NoMark, [("mark", "a"), ("jump", "b")])
        self.refused(NoMark, [("mark", "a"), ("when", "b"), ("jump", "a")])
        self.refused(NoMark, [("jump", "a"), ("mark", "b"), ("jump", "b"), ("when", "b")])
        self.refused(NoMark, [("mark", "a"), ("jump", "a"), ("when", "a"), ("jump", "tell"), ("tell",)])

    def test_a_mark_behind_the_jump_is_a_mark(self):
        self.assertEqual(lay([("jump", "a"), ("mark", "a")]), [4, 0])
        self.assertEqual(lay([("when", "a"), ("mark", "a")]), [6, 0])

    def test_a_mark_to_which_nothing_leads_is_let_by(self):
        self.assertEqual(lay([("mark", "a"), ("tell",)]), [2])


class TestOrder(RefusalCase):
    def test_no_row_ahead_of_two_marks(self):
        for bad in NO_ROWS:
            self.refused(NoRow, [("mark", "b"), ("mark", "b"), bad])
            self.refused(NoRow, [bad, ("mark", "b"), ("mark", "b")])
            self.refused(NoRow, [("mark", "b"), bad, ("mark", "b")])

    def test_no_row_ahead_of_no_mark(self):
        for bad in NO_ROWS:
            self.refused(NoRow, [("jump", "b"), bad])
            self.refused(NoRow, [bad, ("when", "b")])

    def test_no_row_ahead_of_both(self):
        self.refused(NoRow, [("jump", "c"), ("mark", "a"), ("mark", "a"), ("jump", "A")])
        self.refused(NoRow, [("mark", "a"), ("mark", "a"), ("when", "c"), ("tell", 1)])

    def test_two_marks_ahead_of_no_mark(self):
        self.refused(TwoMarks, [("jump", "c"), ("mark", "a"), ("mark", "a")])
        self.refused(TwoMarks, [("mark", "a"), ("mark", "a"), ("when", "c")])
        self.refused(TwoMarks, [("mark", "a"), ("jump", "c"), ("when", "d"), ("mark", "a")])

    def test_refused_far_behind_many_rows(self):
        many = [("tell",)] * 1100
        self.refused(NoRow, [("jump", "c"), ("mark", "a"), ("mark", "a")] + many + [("rest",)])
        self.refused(TwoMarks, [("jump", "c"), ("mark", "a")] + many + [("mark", "a")])
        self.refused(NoMark, [("mark", "a")] + many + [("jump", "c")])


if __name__ == "__main__":
    unittest.main()
