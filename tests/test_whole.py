"""Point 11, and what holds over the whole program."""

import inspect
import random
import unittest

from stepcells import back, layout, machine, notes
from stepcells.back import rows_of
from stepcells.layout import lay, starts
from stepcells.machine import walked_cells, walked_rows
from stepcells.notes import read, shown
from tests.helper import some_rows


def without_marks(rows):
    return [row for row in rows if row[0] != "mark"]


def goal(rows, row):
    """Which row, marks not counted, a jump or `when` leads to."""
    return len(without_marks(rows[:rows.index(("mark", row[1]))]))


def unnamed(rows):
    """Rows but for names and marks: a jump or `when` with the row to which it leads in the place of its name."""
    return [(row[0], goal(rows, row)) if row[0] in ("jump", "when") else row for row in without_marks(rows)]


class TestLaidOutAndReadBack(unittest.TestCase):
    def check(self, rows):
        cells = lay(rows)
        again = rows_of(cells)
        self.assertEqual(unnamed(again), unnamed(rows))
        self.assertEqual(lay(again), cells)
        self.assertEqual(rows_of(lay(again)), again)
        led_to = {row[1] for row in again if row[0] in ("jump", "when")}
        marked = [row[1] for row in again if row[0] == "mark"]
        self.assertEqual(sorted(marked), sorted(led_to))
        begins = starts(again)
        for place, row in enumerate(again):
            if row[0] == "mark":
                self.assertEqual(row[1], f"at{begins[place]}")

    def test_plain_rows(self):
        self.check([])
        self.check([("mark", "a")])
        self.check([("tell",), ("mark", "a"), ("halt",)])
        self.check([("jump", "b"), ("mark", "a"), ("mark", "b"), ("tell",), ("when", "a"), ("mark", "c")])
        self.check([("jump", "c"), ("tell",), ("mark", "b"), ("mark", "c")])

    def test_the_bounds_of_near_gaps(self):
        for word in ("jump", "when"):
            for count in range(0, 40):
                self.check([(word, "a")] + [("tell",)] * count + [("mark", "a")])
                self.check([("mark", "a")] + [("tell",)] * count + [(word, "a")])

    def test_some_rows(self):
        chance = random.Random(11)
        for turn in range(300):
            self.check(some_rows(chance, chance.randint(0, 40), chance.randint(0, 60)))

    def test_many_rows(self):
        chance = random.Random(12)
        for turn in range(3):
            self.check(some_rows(chance, 400, 600))
            self.check(some_rows(chance, 900, 100))
        self.check([("jump", "end")] * 1099 + [("mark", "end")])
        self.check([("when", "end")] * 1500 + [("tell",)] * 20 + [("mark", "end")])

    def test_far_gaps_that_would_fit_as_near_ones_are_laid_out_near(self):
        self.assertEqual(lay(rows_of([5, 0, 1, 2, 7, -1, 9])), [4, 1, 2, 6, -5])


class TestLinesRowsAndCells(unittest.TestCase):
    def test_from_lines_to_cells_and_back(self):
        rows = read(["again:", "tell", "grow -1", "when again", "halt"])
        self.assertEqual(lay(rows), [2, 1, -1, 6, -5, 3])
        self.assertEqual(shown(rows_of(lay(rows))), ["at0:", "tell", "grow -1", "when at0", "halt"])
        self.assertEqual(walked_rows(rows, 2, 99)[1], [2, 1])
        self.assertEqual(walked_cells(lay(rows), 2, 99)[1], [2, 1])


class TestInterface(unittest.TestCase):
    def test_names_and_arguments(self):
        asked = {
            layout: {"starts": ["rows"], "lay": ["rows"]},
            back: {"rows_of": ["cells"]},
            machine: {"walked_rows": ["rows", "number", "steps"], "walked_cells": ["cells", "number", "steps"]},
            notes: {"shown": ["rows"], "read": ["lines"]},
        }
        for module, functions in asked.items():
            for name, arguments in functions.items():
                with self.subTest(name=name):
                    self.assertEqual(list(inspect.signature(getattr(module, name)).parameters), arguments)

    def test_arguments_by_their_names(self):
        self.assertEqual(walked_rows(rows=[("tell",)], number=1, steps=2), ([(0, 1)], [1]))
        self.assertEqual(walked_cells(cells=[2], number=1, steps=2), ([(0, 1)], [1]))
        self.assertEqual(rows_of(cells=[2]), [("tell",)])
        self.assertEqual(shown(rows=[("tell",)]), ["tell"])
        self.assertEqual(read(lines=["tell"]), [("tell",)])


if __name__ == "__main__":
    unittest.main()
