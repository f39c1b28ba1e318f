"""Points 1, 2, 13 and 14: rows written as lines, and lines read to rows."""

import copy
import random
import re
import unittest

from stepcells.errors import NoLine
from stepcells.notes import read, shown
from tests.helper import some_rows

ROWS_AND_LINES = [
    (("mark", "a"), "a:"), (("mark", "a0"), "a0:"), (("mark", "at12"), "at12:"),
    (("mark", "x" * 1000), "x" * 1000 + ":"),
    (("mark", "mark"), "mark:"), (("mark", "grow"), "grow:"), (("mark", "tell"), "tell:"),
    (("mark", "jump"), "jump:"),
    (("mark", "when"), "when:"), (("mark", "halt"), "halt:"),
    (("tell",), "tell"), (("halt",), "halt"),
    (("jump", "a"), "jump a"), (("jump", "z9"), "jump z9"), (("jump", "jump"), "jump jump"),
    (("jump", "tell"), "jump tell"),
    (("when", "a"), "when a"), (("when", "b1c"), "when b1c"), (("when", "grow"), "when grow"),
    (("when", "when"), "when when"),
    (("grow", 0), "grow 0"), (("grow", 1), "grow 1"), (("grow", -1), "grow -1"), (("grow", 9), "grow 9"),
    (("grow", 10), "grow 10"), (("grow", -10), "grow -10"), (("grow", 100), "grow 100"),
    (("grow", -907), "grow -907"),
    (("grow", 1234567890), "grow 1234567890"), (("grow", -9876543210), "grow -9876543210"),
    (("grow", 10 ** 99), "grow 1" + "0" * 99), (("grow", -(10 ** 99)), "grow -1" + "0" * 99),
    (("grow", 10 ** 100 - 1), "grow " + "9" * 100), (("grow", 1 - 10 ** 100), "grow -" + "9" * 100),
]

NO_LINES = [
    "", "tell ", " halt", "grow", "grow 01", "grow -0", "grow +1", "jump", "jump A", "when 1a", "a b:", ":", "rest",
    " ", "\n", "\t", "tell\n", "\ntell", "tell\t", " tell", "tell  ", "Tell", "TELL", "tel", "tells", "tell 1",
    "tell a",
    "halt ", "halt\n", "halt\r", "Halt", "halt a", "halt halt", "telltell", "tell halt", "tell;", "tell.",
    "grow ", "grow  ", "grow  1", "grow 1 ", " grow 1", "grow\t1", "grow1", "grow 1\n", "grow\n1", "grow 1 2",
    "Grow 1",
    "grow -", "grow --1", "grow - 1", "grow 1-", "grow -1-", "grow 00", "grow -00", "grow 007", "grow -01", "grow +0",
    "grow +", "grow -+1", "grow a", "grow 1a", "grow a1", "grow 1_000", "grow 1.0", "grow 1,000", "grow 0x1",
    "grow 1e3",
    "grow 0 ", "grow 0.", "grow one", "grow -a", "grow 0:", "grow 1:", "grow \u0661", "grow 1\u0661", "grow \u00b2",
    "grow \uff11", "grow \u22121", "grow \u20131", "grow\u00a01", "grow 1\u00a0", "grow " + "0" * 100,
    "grow " + "0" * 99 + "1",
    "jump ", "jump  ", "jump  a", "jump a ", " jump a", "jump\ta", "jumpa", "jump a\n", "jump a b", "Jump a",
    "jump a:",
    "jump 1", "jump 1a", "jump -1", "jump aA", "jump a_b", "jump _a", "jump a-b", "jump \u00e9", "jump a\u00e9",
    "jump a\u0661", "jump \uff41", "jump:a", "jump :", "jump a;",
    "when", "when ", "when  a", "when a ", " when a", "when\ta", "whena", "when a\n", "when a b", "When a", "when a:",
    "when A", "when 1", "when \u00e9", "when _",
    "a", "mark", "mark a", "mark a:", "mark ", "a :", " a:", "a: ", "a:\n", "\na:", "a::", "::", ":a", "a:b", "a:b:",
    "A:",
    "aB:", "1:", "1a:", "0:", "-a:", "a-b:", "_:", "a_b:", "\u00e9:", "a\u00e9:", "a\u0661:", "\uff41:", "a\uff1a",
    " :",
    "tell :", "tell a:", "jump jump:", "a:tell", "a: tell", "at 12:", "# a", "a\x00:", "tell\x00", "\ufefftell",
    "tell\nhalt", "tell\x0b", "tell\u2028", "tell\x85", "a\x85:",
]


class TestShown(unittest.TestCase):
    def test_each_row(self):
        for row, line in ROWS_AND_LINES:
            with self.subTest(line=line[:40]):
                self.assertEqual(shown([row]), [line])

    def test_rows_in_their_order(self):
        self.assertEqual(shown([]), [])
        self.assertEqual(shown([row for row, line in ROWS_AND_LINES]), [line for row, line in ROWS_AND_LINES])
        rows = [("mark", "again"), ("tell",), ("grow", -1), ("when", "again"), ("jump", "end"), ("mark", "end"),
                ("halt",)]
        self.assertEqual(shown(rows), ["again:", "tell", "grow -1", "when again", "jump end", "end:", "halt"])

    def test_refuses_no_names(self):
        self.assertEqual(shown([("mark", "a"), ("mark", "a"), ("jump", "b"), ("when", "c")]),
                         ["a:", "a:", "jump b", "when c"])

    def test_refuses_no_tuples(self):
        for row in (("rest",), ("rest", "a"), ("rest", 1), ("mark",), ("mark", "a", "b"), ("mark", "A"), ("mark", ""),
                    ("grow",), ("grow", 1, 2), ("tell", 1), ("tell", "a"), ("tell", None), ("halt", 0), ("jump",),
                    ("jump", ""), ("jump", "A"), ("jump", "a", "b"), ("when",), ("when", "1"), ("",)):
            with self.subTest(row=row):
                lines = shown([("tell",), row, ("halt",)])
                self.assertEqual(lines[0::2], ["tell", "halt"])
                self.assertEqual(len(lines), 3)
                self.assertIsInstance(lines[1], str)
                with self.assertRaises(NoLine):
                    read(lines)

    def test_a_new_list_of_texts(self):
        rows = [("tell",), ("grow", 5)]
        lines = shown(rows)
        self.assertIs(lines.__class__, list)
        self.assertTrue(all(line.__class__ is str for line in lines))
        lines.clear()
        self.assertEqual(shown(rows), ["tell", "grow 5"])


class TestRead(unittest.TestCase):
    def test_each_line(self):
        for row, line in ROWS_AND_LINES:
            with self.subTest(line=line[:40]):
                rows = read([line])
                self.assertEqual(rows, [row])
                self.assertIs(rows[0].__class__, tuple)

    def test_lines_in_their_order(self):
        self.assertEqual(read([]), [])
        self.assertEqual(read([line for row, line in ROWS_AND_LINES]), [row for row, line in ROWS_AND_LINES])

    def test_whatever_names_are_marked(self):
        self.assertEqual(read(["jump a"]), [("jump", "a")])
        self.assertEqual(read(["when b", "a:"]), [("when", "b"), ("mark", "a")])
        self.assertEqual(read(["a:", "a:", "jump c"]), [("mark", "a"), ("mark", "a"), ("jump", "c")])

    def test_numbers_are_whole_numbers(self):
        self.assertIs(read(["grow 5"])[0][1].__class__, int)
        self.assertIs(read(["grow 0"])[0][1].__class__, int)

    def test_a_new_list(self):
        lines = ["tell", "grow 5"]
        rows = read(lines)
        self.assertIs(rows.__class__, list)
        rows.clear()
        self.assertEqual(read(lines), [("tell",), ("grow", 5)])


class TestNoLine(unittest.TestCase):
    def refused(self, lines):
        before = list(lines)
        with self.subTest(lines=[line[:40] for line in lines[:5]]):
            with self.assertRaises(NoLine) as caught:
                read(lines)
            self.assertIs(caught.exception.__class__, NoLine)
            self.assertEqual(lines, before)

    def test_each_line(self):
        for line in NO_LINES:
            self.refused([line])

    def test_among_good_lines(self):
        for line in NO_LINES:
            self.refused([line, "tell"])
            self.refused(["a:", line, "jump a"])
            self.refused(["jump b", "a:", "a:", line])

    def test_behind_many_lines(self):
        self.refused(["tell"] * 1100 + [""])

    def test_signs_of_all_kinds(self):
        for code in list(range(0, 0x250)) + list(range(0x660, 0x66a)) + list(range(0x2000, 0x2070)) + [0xff10, 0xff41]:
            sign = chr(code)
            if not re.fullmatch("[a-z0-9]", sign):
                self.refused(["jump a" + sign])
                self.refused(["when a" + sign])
                self.refused(["a" + sign + ":"])
            if not re.fullmatch("[a-z]", sign):
                self.refused(["jump " + sign])
                self.refused([sign + "a:"])
            if not re.fullmatch("[0-9]", sign):
                self.refused(["grow 1" + sign])
                self.refused(["grow " + sign])
                self.refused(["grow -" + sign])
            if not re.fullmatch("[1-9-]", sign):
                self.refused(["grow " + sign + "1"])
            self.refused(["tell" + sign] if sign != ":" else ["tell;"])
            self.refused([sign + "halt"])
            if sign != " ":
                self.refused(["jump" + sign + "a"])
                self.refused(["grow" + sign + "1"])


WRITTEN = re.compile("([a-z][a-z0-9]*):|tell|halt|(?:jump|when) [a-z][a-z0-9]*|grow (?:0|-?[1-9][0-9]*)")


class TestThereAndBack(unittest.TestCase):
    def test_some_rows(self):
        chance = random.Random(4)
        for turn in range(300):
            rows = some_rows(chance, chance.randint(0, 20), chance.randint(0, 20))
            rows = rows[:chance.randint(0, len(rows))]
            self.assertEqual(read(shown(rows)), rows)

    def test_numbers_of_every_length(self):
        chance = random.Random(5)
        for length in range(1, 131):
            for number in (10 ** (length - 1), 10 ** length - 1, chance.randrange(10 ** (length - 1), 10 ** length)):
                rows = [("grow", number), ("grow", -number)]
                self.assertEqual(shown(rows), [f"grow {number}", f"grow -{number}"])
                self.assertEqual(read([f"grow {number}", f"grow -{number}"]), rows)

    def test_numbers_somewhat_and_far_beyond_a_hundred_figures(self):
        for length in (101, 110, 200, 1000, 5000):
            rows = [("grow", 10 ** (length - 1)), ("grow", -(10 ** (length - 1)))]
            lines = ["grow 1" + "0" * (length - 1), "grow -1" + "0" * (length - 1)]
            self.assertEqual(shown(rows), lines)
            self.assertTrue(read(lines) == rows)

    def test_some_lines(self):
        chance = random.Random(6)
        counts = {True: 0, False: 0}
        pieces = ["tell", "halt", "grow", "jump", "when", " ", " ", ":", "a", "z1", "0", "7", "-", "A", "+", "\n"]
        for turn in range(30000):
            line = "".join(chance.choice(pieces) for piece in range(chance.randint(0, 4)))
            good = WRITTEN.fullmatch(line) is not None
            counts[good] += 1
            if good:
                self.assertEqual(shown(read([line])), [line])
            else:
                with self.assertRaises(NoLine, msg=line):
                    read([line])
        self.assertGreater(min(counts.values()), 1000)

    def test_many_rows(self):
        for count in (1100, 1700):
            rows = [("grow", (-1) ** place * (10 ** 100 - 1 - place)) for place in range(count)]
            self.assertEqual(read(shown(rows)), rows)
            rows = [("mark", f"m{place}") for place in range(count)]
            self.assertEqual(shown(rows), [f"m{place}:" for place in range(count)])
            self.assertEqual(read(shown(rows)), rows)


class TestNothingIsChanged(unittest.TestCase):
    def test_rows_and_lines_are_the_same_after_the_call(self):
        rows = [row for row, line in ROWS_AND_LINES]
        before = copy.deepcopy(rows)
        lines = shown(rows)
        self.assertEqual(rows, before)
        before = list(lines)
        read(lines)
        self.assertEqual(lines, before)


if __name__ == "__main__":
    unittest.main()
