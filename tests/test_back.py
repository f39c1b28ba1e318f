"""Points 1, 5, 6, 9 and 10: cells read back to rows, and refused."""

import random
import unittest

from stepcells.back import rows_of
from stepcells.errors import NoCells
from stepcells.machine import walked_cells

TELL = ("tell",)


class TestRowsOf(unittest.TestCase):
    def test_no_cells(self):
        self.assertEqual(rows_of([]), [])

    def test_cells_without_gaps(self):
        self.assertEqual(rows_of([2]), [TELL])
        self.assertEqual(rows_of([3]), [("halt",)])
        self.assertEqual(rows_of([1, 5]), [("grow", 5)])
        self.assertEqual(rows_of([1, 4, 2, 1, -4, 3, 2, 2]),
                         [("grow", 4), TELL, ("grow", -4), ("halt",), TELL, TELL])

    def test_numbers_that_look_like_first_cells(self):
        for number in range(-1, 10):
            self.assertEqual(rows_of([1, number]), [("grow", number)])
            self.assertEqual(rows_of([1, number, 3]), [("grow", number), ("halt",)])

    def test_long_numbers(self):
        for number in (10 ** 99, -(10 ** 99), 10 ** 5000, -(10 ** 5000)):
            self.assertTrue(rows_of([1, number, 2]) == [("grow", number), TELL])

    def test_all_first_cells(self):
        cells = [1, -1, 2, 6, -5, 4, 3, 1, 9, 3, 5, -1, 12, 7, -1, 10, 3]
        self.assertEqual(rows_of(cells), [
            ("mark", "at0"), ("grow", -1), TELL, ("when", "at0"), ("jump", "at10"), ("grow", 9),
            ("mark", "at9"), ("halt",), ("mark", "at10"), ("jump", "at9"), ("when", "at10"), ("halt",)])

    def test_one_mark_where_several_gaps_lead(self):
        self.assertEqual(rows_of([4, 2, 6, 0, 3, 4, -3, 7, -1, 10]), [
            ("jump", "at4"), ("when", "at4"), ("mark", "at4"), ("halt",), ("jump", "at4"), ("when", "at4")])

    def test_a_gap_behind_the_last_cell(self):
        self.assertEqual(rows_of([4, 0]), [("jump", "at2"), ("mark", "at2")])
        self.assertEqual(rows_of([7, 0, 0]), [("when", "at3"), ("mark", "at3")])
        self.assertEqual(rows_of([6, 1, 2]), [("when", "at3"), TELL, ("mark", "at3")])
        self.assertEqual(rows_of([5, 0, 3, 4, 1, 2]), [("jump", "at6"), ("jump", "at6"), TELL, ("mark", "at6")])

    def test_a_gap_to_the_row_itself(self):
        self.assertEqual(rows_of([4, -2]), [("mark", "at0"), ("jump", "at0")])
        self.assertEqual(rows_of([2, 6, -2]), [TELL, ("mark", "at1"), ("when", "at1")])
        self.assertEqual(rows_of([2, 5, -1, 13]), [TELL, ("mark", "at1"), ("jump", "at1")])
        self.assertEqual(rows_of([2, 7, -1, 13, 3]), [TELL, ("mark", "at1"), ("when", "at1"), ("halt",)])

    def test_a_gap_to_a_mark_both_ahead_and_behind(self):
        self.assertEqual(rows_of([6, 1, 2, 4, -5]), [
            ("mark", "at0"), ("when", "at3"), TELL, ("mark", "at3"), ("jump", "at0")])

    def test_near_gaps(self):
        for first, word in ((4, "jump"), (6, "when")):
            for gap in range(0, 8):
                name = f"at{gap + 2}"
                self.assertEqual(rows_of([first, gap] + [2] * gap), [(word, name)] + [TELL] * gap + [("mark", name)])
                self.assertEqual(rows_of([first, gap] + [2] * gap + [3]),
                                 [(word, name)] + [TELL] * gap + [("mark", name), ("halt",)])
            for gap in range(-8, -1):
                tells = [TELL] * (-gap - 2)
                self.assertEqual(rows_of([2] * len(tells) + [first, gap]),
                                 [("mark", "at0")] + tells + [(word, "at0")])

    def test_far_gaps_and_those_that_would_fit_as_near_ones(self):
        for first, word in ((5, "jump"), (7, "when")):
            for gap in (0, 1, 7, 8, 15, 16, 17, 255, 256, 1000, 3300):
                name = f"at{gap + 3}"
                self.assertEqual(rows_of([first] + list(divmod(gap, 16)) + [2] * gap),
                                 [(word, name)] + [TELL] * gap + [("mark", name)])
            for gap in (-3, -4, -8, -9, -10, -15, -16, -17, -32, -33, -256, -257, -1000, -3300):
                tells = [TELL] * (-gap - 3)
                self.assertEqual(rows_of([2] * len(tells) + [first] + list(divmod(gap, 16))),
                                 [("mark", "at0")] + tells + [(word, "at0")])

    def test_a_far_gap_of_three_back(self):
        self.assertEqual(rows_of([5, -1, 13]), [("mark", "at0"), ("jump", "at0")])

    def test_names_of_cells_have_all_figures_and_no_nought_ahead(self):
        for cell in (0, 1, 9, 10, 12, 99, 100, 1000, 3300):
            rows = rows_of([2] * cell + [4, -2])
            self.assertEqual(rows[cell:], [("mark", f"at{cell}"), ("jump", f"at{cell}")])

    def test_the_answer_is_a_new_list_of_tuples(self):
        cells = [6, 0, 3]
        first = rows_of(cells)
        self.assertIs(first.__class__, list)
        self.assertTrue(all(row.__class__ is tuple for row in first))
        first.clear()
        self.assertEqual(rows_of(cells), [("when", "at2"), ("mark", "at2"), ("halt",)])


def plain_rows(cells):
    """Reads cells back in a plainer way, or answers None where they are to be refused."""
    sizes = [None, 2, 1, 1, 2, 3, 2, 3]
    begins = [0]
    while begins[-1] < len(cells):
        if cells[begins[-1]] not in range(1, 8):
            return None
        begins.append(begins[-1] + sizes[cells[begins[-1]]])
    if begins[-1] != len(cells):
        return None
    goals = {}
    for cell, end in zip(begins, begins[1:]):
        if cells[cell] in (4, 6):
            goals[cell] = end + cells[cell + 1]
            if cells[cell + 1] not in range(-8, 8):
                return None
        if cells[cell] in (5, 7):
            goals[cell] = end + 16 * cells[cell + 1] + cells[cell + 2]
            if cells[cell + 2] not in range(16):
                return None
    if not set(goals.values()) <= set(begins):
        return None
    rows = []
    for cell in begins:
        if cell in goals.values():
            rows.append(("mark", "at" + str(cell)))
        if cell < len(cells):
            word = [None, "grow", "tell", "halt", "jump", "jump", "when", "when"][cells[cell]]
            rows.append((word, f"at{goals[cell]}") if cell in goals else
                        (word, cells[cell + 1]) if word == "grow" else (word,))
    return rows


def some_cells(chance):
    cells = []
    for turn in range(chance.randint(0, 6)):
        first = chance.choice((1, 2, 2, 3, 4, 5, 6, 7))
        rest = {1: [chance.randint(-9, 9)], 4: [chance.randint(-9, 8)], 6: [chance.randint(-9, 8)],
                5: [chance.randint(-1, 1), chance.randint(-1, 16)],
                7: [chance.randint(-1, 0), chance.randint(0, 15)]}.get(first, [])
        cells.extend([first] + rest)
    if chance.random() < 0.1:
        cells = cells[:-1]
    return cells


class TestSomeCells(unittest.TestCase):
    def test_as_a_plainer_reader_has_it(self):
        chance = random.Random(1)
        counts = {True: 0, False: 0}
        for turn in range(20000):
            cells = some_cells(chance)
            rows = plain_rows(cells)
            counts[rows is None] += 1
            if rows is None:
                with self.assertRaises(NoCells, msg=cells):
                    rows_of(cells)
            else:
                self.assertEqual(rows_of(cells), rows, cells)
        self.assertGreater(min(counts.values()), 2000)


class TestNoCells(unittest.TestCase):
    def refused(self, cells):
        before = list(cells)
        for call in (rows_of, lambda given: walked_cells(given, 1, 9), lambda given: walked_cells(given, 1, 0)):
            with self.subTest(cells=[cell if abs(cell) < 10 ** 9 else ".." for cell in cells[:20]]):
                with self.assertRaises(NoCells) as caught:
                    call(cells)
                self.assertIs(caught.exception.__class__, NoCells)
                self.assertTrue(cells == before)

    def test_no_first_cell_of_a_row(self):
        for first in (0, 8, -1, 9, -4, -7, 16, 100, 10 ** 30, -(10 ** 30), 10 ** 5000, -(10 ** 5000)):
            self.refused([first])
            self.refused([first, 2])
            self.refused([2, first])
            self.refused([1, 3, first, 0, 3])
            self.refused([3, first])
            self.refused([4, -2, first])

    def test_beyond_the_last_cell(self):
        for cells in ([1], [4], [6], [5], [7], [5, 0], [7, 0], [5, -1], [7, -1]):
            self.refused(cells)
            self.refused([2] + cells)
            self.refused([3] + cells)
            self.refused([1, 1] + cells)

    def test_near_gaps_out_of_their_bounds(self):
        for first in (4, 6):
            for gap in (8, 9, 15, 16, 100):
                self.refused([first, gap] + [2] * gap)
                self.refused([first, gap] + [2] * (gap + 3))
            for gap in (-9, -10, -16, -100):
                self.refused([2] * (-gap - 2) + [first, gap])
                self.refused([2] * (-gap + 3) + [first, gap])
            for gap in (10 ** 30, -(10 ** 30), 10 ** 5000, -(10 ** 5000)):
                self.refused([first, gap])

    def test_the_second_cell_of_a_far_gap_out_of_its_bounds(self):
        for first in (5, 7):
            # Each of them leads to a row or behind the last one.
            self.refused([first, 0, 16] + [2] * 20)
            self.refused([first, -1, 16] + [2] * 20)
            self.refused([first, -1, 18] + [2] * 20)
            self.refused([first, 1, -1] + [2] * 20)
            self.refused([first, 1, -16] + [2] * 20)
            self.refused([first, 0, -3] + [2] * 20)
            self.refused([2] * 20 + [first, 0, -3])
            self.refused([2] * 20 + [first, -2, 16])
            self.refused([first, 0, 17] + [2] * 17)
            self.refused([first, 10 ** 5000, -16 * 10 ** 5000])

    def test_a_gap_into_a_row(self):
        self.refused([4, 1, 1, 5])
        self.refused([6, 1, 1, 2])
        self.refused([4, -1])
        self.refused([6, -1])
        self.refused([5, -1, 14])
        self.refused([5, -1, 15])
        self.refused([7, -1, 14])
        self.refused([7, -1, 15])
        self.refused([1, 2, 4, -3])
        self.refused([4, 1, 5, 0, 0])
        self.refused([4, 2, 5, 0, 0])
        self.refused([2, 1, 3, 7, -1, 12, 3])

    def test_a_gap_beyond_all_cells(self):
        for first in (4, 6):
            self.refused([first, 1])
            self.refused([first, -3])
            self.refused([first, 7, 2, 2, 2, 2, 2, 2])
            self.refused([2, 2, 2, 2, 2, first, -8])
        for first in (5, 7):
            self.refused([first, 0, 1])
            self.refused([first, 0, 15] + [2] * 14)
            self.refused([first, 1, 0] + [2] * 15)
            self.refused([first, -1, 12])
            self.refused([2] * 12 + [first, -1, 0])
            self.refused([first, -1, 0])
            for part in (10 ** 30, -(10 ** 30), 10 ** 5000, -(10 ** 5000)):
                self.refused([first, part, 0])
                self.refused([2, first, part, 15, 3])

    def test_refused_where_the_machine_would_not_come(self):
        self.refused([3, 4, 3])
        self.refused([3, 0])
        self.refused([4, -2, 5, 0, 16])

    def test_refused_behind_many_cells(self):
        for tail in ([0], [1], [4, 8], [4, 1], [5, 0, 16], [7, 0, 1], [6, -9], [5, -210, 0]):
            self.refused([2] * 3300 + tail)


class TestManyCells(unittest.TestCase):
    def test_three_thousand_three_hundred_cells(self):
        for count in (1100, 1700):
            cells = []
            for number in range(count):
                cells.extend([5] + list(divmod(3 * (count - 1 - number), 16)))
            end = f"at{3 * count}"
            self.assertEqual(rows_of(cells), [("jump", end)] * count + [("mark", end)])

    def test_a_mark_at_each_row(self):
        for count in (1100, 1700):
            rows = []
            for number in range(count):
                rows.extend([("mark", f"at{3 * number}"), ("when", f"at{3 * number}")])
            self.assertEqual(rows_of([7, -1, 13] * count), rows)

    def test_tells_alone(self):
        self.assertEqual(rows_of([2] * 5000), [TELL] * 5000)


class TestNothingIsChanged(unittest.TestCase):
    def test_cells_are_the_same_after_the_call(self):
        for cells in ([], [1, 5, 2, 3], [4, 1, 2, 6, -5, 5, -1, 13, 7, -1, 13, 3]):
            before = list(cells)
            first = rows_of(cells)
            self.assertEqual(cells, before)
            self.assertEqual(rows_of(cells), first)


if __name__ == "__main__":
    unittest.main()
