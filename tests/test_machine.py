"""Points 1, 2, 4 and 12: the machine over rows and over cells."""

import copy
import random
import unittest

from stepcells.back import rows_of
from stepcells.layout import lay, starts
from stepcells.machine import walked_cells, walked_rows
from tests.helper import some_rows

COUNTDOWN = [("mark", "again"), ("tell",), ("grow", -1), ("when", "again"), ("halt",)]
COUNTDOWN_CELLS = [2, 1, -1, 6, -5, 3]


class TestWalkedRows(unittest.TestCase):
    def test_no_rows(self):
        self.assertEqual(walked_rows([], 5, 10), ([], []))
        self.assertEqual(walked_rows([], 5, 0), ([], []))

    def test_marks_alone(self):
        rows = [("mark", "a"), ("mark", "b")]
        self.assertEqual(walked_rows(rows, 5, 0), ([], []))
        self.assertEqual(walked_rows(rows, 5, 10), ([], []))

    def test_one_row(self):
        self.assertEqual(walked_rows([("grow", 4)], 5, 10), ([(0, 9)], []))
        self.assertEqual(walked_rows([("grow", -9)], 5, 10), ([(0, -4)], []))
        self.assertEqual(walked_rows([("grow", 0)], 5, 10), ([(0, 5)], []))
        self.assertEqual(walked_rows([("tell",)], 5, 10), ([(0, 5)], [5]))
        self.assertEqual(walked_rows([("tell",)], -5, 10), ([(0, -5)], [-5]))
        self.assertEqual(walked_rows([("halt",)], 5, 10), ([(0, 5)], []))

    def test_one_row_after_the_other_until_behind_the_last(self):
        rows = [("grow", 4), ("tell",), ("grow", -6), ("tell",), ("tell",)]
        self.assertEqual(walked_rows(rows, 1, 100), ([(0, 5), (1, 5), (2, -1), (3, -1), (4, -1)], [5, -1, -1]))

    def test_a_halt_is_done_and_nothing_behind_it(self):
        rows = [("grow", 4), ("halt",), ("tell",), ("grow", 1)]
        self.assertEqual(walked_rows(rows, 1, 100), ([(0, 5), (1, 5)], []))

    def test_a_jump_ahead(self):
        rows = [("jump", "a"), ("tell",), ("mark", "a"), ("grow", 1)]
        self.assertEqual(walked_rows(rows, 0, 100), ([(0, 0), (3, 1)], []))

    def test_a_jump_goes_on_whatever_the_number(self):
        rows = [("jump", "a"), ("tell",), ("mark", "a"), ("halt",)]
        for number in (-7, -1, 0, 1, 7):
            self.assertEqual(walked_rows(rows, number, 100), ([(0, number), (3, number)], []))

    def test_a_when_goes_on_above_nought_alone(self):
        rows = [("when", "a"), ("tell",), ("mark", "a"), ("halt",)]
        for number in (1, 2, 10 ** 99):
            self.assertEqual(walked_rows(rows, number, 100), ([(0, number), (3, number)], []))
        for number in (0, -1, -2, -(10 ** 99)):
            self.assertEqual(walked_rows(rows, number, 100), ([(0, number), (1, number), (3, number)], [number]))

    def test_a_jump_behind_the_last_row(self):
        self.assertEqual(walked_rows([("jump", "a"), ("tell",), ("mark", "a")], 3, 9), ([(0, 3)], []))
        self.assertEqual(walked_rows([("when", "a"), ("tell",), ("mark", "a"), ("mark", "b")], 3, 9), ([(0, 3)], []))

    def test_going_round(self):
        self.assertEqual(walked_rows(COUNTDOWN, 3, 100), (
            [(1, 3), (2, 2), (3, 2), (1, 2), (2, 1), (3, 1), (1, 1), (2, 0), (3, 0), (4, 0)], [3, 2, 1]))
        self.assertEqual(walked_rows(COUNTDOWN, -3, 100), ([(1, -3), (2, -4), (3, -4), (4, -4)], [-3]))

    def test_no_more_than_the_steps(self):
        done = walked_rows(COUNTDOWN, 3, 100)[0]
        for steps in range(0, 13):
            told = [3, 2, 1][:(steps + 2) // 3]
            self.assertEqual(walked_rows(COUNTDOWN, 3, steps), (done[:steps], told))

    def test_a_jump_to_itself(self):
        rows = [("mark", "a"), ("jump", "a")]
        self.assertEqual(walked_rows(rows, 2, 0), ([], []))
        self.assertEqual(walked_rows(rows, 2, 4), ([(1, 2)] * 4, []))
        rows = [("mark", "a"), ("when", "a")]
        self.assertEqual(walked_rows(rows, 2, 4), ([(1, 2)] * 4, []))
        self.assertEqual(walked_rows(rows, 0, 4), ([(1, 0)], []))

    def test_marks_are_not_counted(self):
        rows = [("mark", "a"), ("mark", "b"), ("tell",), ("mark", "c"), ("mark", "d"), ("grow", 1), ("jump", "a")]
        self.assertEqual(walked_rows(rows, 0, 1), ([(2, 0)], [0]))
        self.assertEqual(walked_rows(rows, 0, 2), ([(2, 0), (5, 1)], [0]))
        self.assertEqual(walked_rows(rows, 0, 4), ([(2, 0), (5, 1), (6, 1), (2, 1)], [0, 1]))

    def test_several_marks_lead_to_one_row(self):
        for name in ("a", "b", "c"):
            rows = [("jump", name), ("tell",), ("mark", "a"), ("mark", "b"), ("mark", "c"), ("halt",)]
            self.assertEqual(walked_rows(rows, 1, 9), ([(0, 1), (5, 1)], []))

    def test_long_numbers(self):
        number = 10 ** 5000
        done, told = walked_rows([("grow", number), ("tell",), ("grow", -number), ("tell",)], 1, 9)
        self.assertTrue(done == [(0, number + 1), (1, number + 1), (2, 1), (3, 1)])
        self.assertTrue(told == [number + 1, 1])

    def test_the_kinds_of_the_answer(self):
        for answer in (walked_rows(COUNTDOWN, 3, 5), walked_cells(COUNTDOWN_CELLS, 3, 5), walked_rows([], 3, 5),
                       walked_cells([], 3, 5)):
            self.assertIs(answer.__class__, tuple)
            self.assertEqual([part.__class__ for part in answer], [list, list])
            self.assertTrue(all(pair.__class__ is tuple and len(pair) == 2 for pair in answer[0]))


class TestWalkedCells(unittest.TestCase):
    def test_no_cells(self):
        self.assertEqual(walked_cells([], 5, 10), ([], []))
        self.assertEqual(walked_cells([], 5, 0), ([], []))

    def test_the_cell_in_the_place_of_the_place(self):
        self.assertEqual(walked_cells(COUNTDOWN_CELLS, 3, 100), (
            [(0, 3), (1, 2), (3, 2), (0, 2), (1, 1), (3, 1), (0, 1), (1, 0), (3, 0), (5, 0)], [3, 2, 1]))
        self.assertEqual(walked_cells([2, 1, 4, 1, -9, 2], 1, 9), ([(0, 1), (1, 5), (3, -4), (5, -4)], [1, -4]))

    def test_steps(self):
        done = walked_cells(COUNTDOWN_CELLS, 3, 100)[0]
        for steps in range(0, 13):
            self.assertEqual(walked_cells(COUNTDOWN_CELLS, 3, steps), (done[:steps], [3, 2, 1][:(steps + 2) // 3]))

    def test_a_halt(self):
        self.assertEqual(walked_cells([1, 2, 3, 2], 5, 9), ([(0, 7), (2, 7)], []))

    def test_near_and_far(self):
        for first, gap in ((4, [1]), (5, [0, 1]), (6, [1]), (7, [0, 1])):
            cells = [first] + gap + [2, 3]
            end = len(cells) - 1
            self.assertEqual(walked_cells(cells, 1, 9), ([(0, 1), (end, 1)], []))
            if first < 6:
                self.assertEqual(walked_cells(cells, 0, 9), ([(0, 0), (end, 0)], []))
            else:
                self.assertEqual(walked_cells(cells, 0, 9), ([(0, 0), (end - 1, 0), (end, 0)], [0]))

    def test_far_gaps_that_would_fit_as_near_ones_keep_their_cells(self):
        cells = [5, 0, 1, 3, 2, 7, -1, 12, 3]
        self.assertEqual(walked_cells(cells, 2, 5), ([(0, 2), (4, 2), (5, 2), (4, 2), (5, 2)], [2, 2]))
        self.assertEqual(walked_cells(cells, 0, 5), ([(0, 0), (4, 0), (5, 0), (8, 0)], [0]))

    def test_behind_the_last_cell(self):
        self.assertEqual(walked_cells([4, 1, 2], 2, 9), ([(0, 2)], []))
        self.assertEqual(walked_cells([7, 0, 1, 2], 2, 9), ([(0, 2)], []))
        self.assertEqual(walked_cells([7, 0, 1, 2], 0, 9), ([(0, 0), (3, 0)], [0]))


def plain_walk(rows, number, steps):
    place = 0
    done = []
    told = []
    while place < len(rows):
        word = rows[place][0]
        if word == "mark":
            place += 1
            continue
        if len(done) == steps:
            break
        number += rows[place][1] if word == "grow" else 0
        told += [number] if word == "tell" else []
        done.append((place, number))
        if word == "halt":
            break
        if word == "jump" or word == "when" and number > 0:
            place = rows.index(("mark", rows[place][1]))
        else:
            place += 1
    return done, told


class TestSideBySide(unittest.TestCase):
    def test_some_rows_and_their_cells(self):
        chance = random.Random(2)
        for turn in range(1500):
            rows = some_rows(chance, chance.randint(0, 12), chance.randint(0, 40))
            number = chance.randint(-30, 30)
            steps = chance.choice((0, 1, 2, 5, 40, 200))
            walked = walked_rows(rows, number, steps)
            self.assertEqual(walked, plain_walk(rows, number, steps))
            begins = starts(rows)
            self.assertEqual(walked_cells(lay(rows), number, steps),
                             ([(begins[place], held) for place, held in walked[0]], walked[1]))

    def test_cells_and_the_rows_that_they_are_read_back_to(self):
        cells = [5, 0, 1, 3, 2, 7, -1, 12, 6, 2, 1, 1, 4, -6, 1, -8, 5, -2, 13, 3]
        cell_of = [cell for cell in (0, 3, 4, 5, 8, 10, 12, 14, 16, 19)]
        rows = rows_of(cells)
        place_of = [place for place, row in enumerate(rows) if row[0] != "mark"]
        for number in range(-5, 6):
            for steps in (0, 1, 7, 60):
                done, told = walked_rows(rows, number, steps)
                self.assertEqual(walked_cells(cells, number, steps),
                                 ([(cell_of[place_of.index(place)], held) for place, held in done], told))


class TestManyRows(unittest.TestCase):
    def test_many_rows(self):
        for count in (1100, 1700):
            rows = [("grow", 1)] * count
            self.assertEqual(walked_rows(rows, 0, count * 2), ([(place, place + 1) for place in range(count)], []))
            self.assertEqual(walked_cells([1, 1] * count, 0, count * 2),
                             ([(2 * place, place + 1) for place in range(count)], []))

    def test_many_cells(self):
        for count in (1100, 1700):
            cells = [7, 0, 0] * count
            self.assertEqual(walked_cells(cells, 1, 9999), ([(3 * place, 1) for place in range(count)], []))

    def test_round_and_round_through_many_marks(self):
        rows = [("mark", f"m{number}") for number in range(1100)] + [("grow", -1), ("jump", "m0")]
        done, told = walked_rows(rows, 0, 200000)
        self.assertEqual(len(done), 200000)
        self.assertEqual(done[-1], (1101, -100000))
        self.assertEqual(told, [])

    def test_many_steps_where_the_end_comes_first(self):
        self.assertEqual(walked_rows([("tell",)], 1, 10 ** 100), ([(0, 1)], [1]))
        self.assertEqual(walked_cells([2], 1, 10 ** 100), ([(0, 1)], [1]))


class TestNothingIsChanged(unittest.TestCase):
    def test_rows_and_cells_are_the_same_after_the_call(self):
        chance = random.Random(3)
        for turn in range(50):
            rows = some_rows(chance, 8, 20)
            before = copy.deepcopy(rows)
            first = walked_rows(rows, 3, 50)
            self.assertEqual(rows, before)
            self.assertEqual(walked_rows(rows, 3, 50), first)
            cells = lay(rows)
            before = list(cells)
            first = walked_cells(cells, 3, 50)
            self.assertEqual(cells, before)
            self.assertEqual(walked_cells(cells, 3, 50), first)


if __name__ == "__main__":
    unittest.main()
