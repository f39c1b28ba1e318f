"""Points 1 and 5 to 8: the cells of rows, where rows begin, gaps, and the least sizes."""

import copy
import itertools
import random
import unittest

from stepcells.layout import lay, starts
from tests.helper import some_rows

TELL = ("tell",)


def tells(count):
    return [TELL] * count


def ahead(word, count):
    """A jump or `when` over some tells to a mark behind them."""
    return [(word, "a")] + tells(count) + [("mark", "a")]


def behind(word, count):
    """A mark, some tells, and a jump or `when` back over them."""
    return [("mark", "a")] + tells(count) + [(word, "a")]


class TestPlainRows(unittest.TestCase):
    def test_no_rows(self):
        self.assertEqual(lay([]), [])
        self.assertEqual(starts([]), [0])

    def test_marks_alone(self):
        self.assertEqual(lay([("mark", "a")]), [])
        self.assertEqual(starts([("mark", "a")]), [0, 0])
        rows = [("mark", "a"), ("mark", "b"), ("mark", "c")]
        self.assertEqual(lay(rows), [])
        self.assertEqual(starts(rows), [0, 0, 0, 0])

    def test_rows_without_names(self):
        self.assertEqual(lay([TELL]), [2])
        self.assertEqual(lay([("halt",)]), [3])
        self.assertEqual(lay([("grow", 5)]), [1, 5])
        rows = [("grow", 4), TELL, ("grow", -4), ("halt",), TELL, TELL]
        self.assertEqual(lay(rows), [1, 4, 2, 1, -4, 3, 2, 2])
        self.assertEqual(starts(rows), [0, 2, 3, 5, 6, 7, 8])

    def test_numbers(self):
        for number in (0, 1, -1, 7, 8, -8, -9, 15, 16, 10 ** 20, -(10 ** 20), 10 ** 99, -(10 ** 99), 3 ** 999,
                       -(3 ** 999), 2 ** 64, -(2 ** 63)):
            with self.subTest(number=number):
                self.assertEqual(lay([("grow", number)]), [1, number])
                self.assertEqual(starts([("grow", number)]), [0, 2])

    def test_numbers_too_long_to_be_written(self):
        number = 10 ** 5000
        self.assertTrue(lay([("grow", number), ("grow", -number)]) == [1, number, 1, -number])

    def test_all_words(self):
        rows = [("mark", "again"), ("grow", -1), TELL, ("when", "again"), ("jump", "end"), ("grow", 9),
                ("mark", "end"), ("halt",)]
        self.assertEqual(lay(rows), [1, -1, 2, 6, -5, 4, 2, 1, 9, 3])
        self.assertEqual(starts(rows), [0, 0, 2, 3, 5, 7, 9, 9, 10])

    def test_answers_are_lists_and_new_ones(self):
        rows = [TELL, ("mark", "a"), ("jump", "a")]
        for call, answer in ((lay, [2, 4, -2]), (starts, [0, 1, 1, 3])):
            first = call(rows)
            self.assertIs(first.__class__, list)
            first.append(99)
            first[0] = 98
            self.assertEqual(call(rows), answer)


class TestMarks(unittest.TestCase):
    def test_a_mark_begins_where_the_row_behind_it_does(self):
        rows = [TELL, ("mark", "a"), ("grow", 3), ("mark", "b"), TELL]
        self.assertEqual(starts(rows), [0, 1, 1, 3, 3, 4])

    def test_a_mark_as_the_last_row(self):
        rows = [("grow", 3), TELL, ("mark", "a")]
        self.assertEqual(starts(rows), [0, 2, 3, 3])
        rows = [("jump", "a"), TELL, ("mark", "a")]
        self.assertEqual(lay(rows), [4, 1, 2])
        self.assertEqual(starts(rows), [0, 2, 3, 3])

    def test_several_marks_at_one_place(self):
        rows = [("jump", "c"), ("when", "a"), TELL, ("mark", "a"), ("mark", "b"), ("mark", "c"), ("jump", "b"),
                ("mark", "d"), ("mark", "e")]
        self.assertEqual(lay(rows), [4, 3, 6, 1, 2, 4, -2])
        self.assertEqual(starts(rows), [0, 2, 4, 5, 5, 5, 5, 7, 7, 7])

    def test_marks_between_take_no_room(self):
        many = [("mark", f"m{number}") for number in range(50)]
        self.assertEqual(lay([("jump", "a")] + many + tells(7) + [("mark", "a")]), [4, 7] + [2] * 7)

    def test_a_mark_straight_ahead_and_straight_behind(self):
        for word, cell in (("jump", 4), ("when", 6)):
            self.assertEqual(lay([("mark", "a"), (word, "a")]), [cell, -2])
            self.assertEqual(lay([(word, "a"), ("mark", "a")]), [cell, 0])
            self.assertEqual(lay([TELL, ("mark", "a"), (word, "a"), TELL]), [2, cell, -2, 2])
            self.assertEqual(lay([TELL, (word, "a"), ("mark", "a"), TELL]), [2, cell, 0, 2])


class TestGaps(unittest.TestCase):
    def test_gaps_ahead(self):
        for word, near, far in (("jump", 4, 5), ("when", 6, 7)):
            for gap in range(0, 8):
                rows = ahead(word, gap)
                self.assertEqual(lay(rows), [near, gap] + [2] * gap)
                self.assertEqual(starts(rows), [0] + list(range(2, gap + 3)) + [gap + 2])
            for gap, pair in ((8, [0, 8]), (9, [0, 9]), (14, [0, 14]), (15, [0, 15]), (16, [1, 0]), (17, [1, 1]),
                              (31, [1, 15]), (32, [2, 0]), (255, [15, 15]), (256, [16, 0]), (1000, [62, 8])):
                rows = ahead(word, gap)
                self.assertEqual(lay(rows), [far] + pair + [2] * gap)
                self.assertEqual(starts(rows), [0] + list(range(3, gap + 4)) + [gap + 3])

    def test_gaps_behind(self):
        for word, near, far in (("jump", 4, 5), ("when", 6, 7)):
            for gap in range(-8, -1):
                rows = behind(word, -gap - 2)
                self.assertEqual(lay(rows), [2] * (-gap - 2) + [near, gap])
                self.assertEqual(starts(rows), [0] + list(range(0, -gap - 1)) + [-gap])
            # No far gap is -9: where it would be, the row is near with -8.
            for gap, pair in ((-10, [-1, 6]), (-11, [-1, 5]), (-15, [-1, 1]), (-16, [-1, 0]), (-17, [-2, 15]),
                              (-18, [-2, 14]), (-32, [-2, 0]), (-33, [-3, 15]), (-256, [-16, 0]), (-257, [-17, 15]),
                              (-1000, [-63, 8])):
                rows = behind(word, -gap - 3)
                self.assertEqual(lay(rows), [2] * (-gap - 3) + [far] + pair)
                self.assertEqual(starts(rows), [0] + list(range(0, -gap - 2)) + [-gap])

    def test_a_far_row_moves_what_stands_behind_it(self):
        rows = ahead("when", 8) + [TELL, ("mark", "b"), ("halt",)]
        self.assertEqual(starts(rows), [0] + list(range(3, 12)) + [11, 12, 12, 13])


class TestLeastSizes(unittest.TestCase):
    def test_each_near_only_if_the_other_is(self):
        for one, two in itertools.product(("jump", "when"), repeat=2):
            rows = [("mark", "b")] + tells(2) + [(one, "a")] + tells(2) + [(two, "b")] + tells(3) + [("mark", "a")]
            near = {"jump": 4, "when": 6}
            self.assertEqual(lay(rows), [2, 2, near[one], 7, 2, 2, near[two], -8, 2, 2, 2])
            self.assertEqual(starts(rows), [0, 0, 1, 2, 4, 5, 6, 8, 9, 10, 11, 11])

    def test_both_far_where_one_cell_more_stands_between(self):
        rows = [("mark", "b")] + tells(2) + [("jump", "a")] + tells(3) + [("when", "b")] + tells(3) + [("mark", "a")]
        self.assertEqual(lay(rows), [2, 2, 5, 0, 9, 2, 2, 2, 7, -1, 5, 2, 2, 2])

    def test_far_only_because_another_one_is_far(self):
        rows = [("jump", "a"), ("when", "b")] + tells(5) + [("mark", "a")] + tells(10) + [("mark", "b")]
        self.assertEqual(lay(rows), [5, 0, 8, 7, 0, 15] + [2] * 15)
        nearer = [("jump", "a"), ("when", "b")] + tells(5) + [("mark", "a")] + tells(2) + [("mark", "b")]
        self.assertEqual(lay(nearer), [4, 7, 6, 7] + [2] * 7)

    def test_far_behind_only_because_another_one_is_far(self):
        rows = [("mark", "b")] + tells(10) + [("mark", "a")] + tells(4) + [("when", "b"), ("jump", "a")]
        self.assertEqual(lay(rows), [2] * 14 + [7, -2, 15, 5, -1, 6])
        nearer = [("mark", "b")] + tells(2) + [("mark", "a")] + tells(4) + [("when", "b"), ("jump", "a")]
        self.assertEqual(lay(nearer), [2] * 6 + [6, -8, 4, -8])

    def test_a_far_row_outside_of_a_gap_leaves_it_near(self):
        rows = [("jump", "far")] + ahead("jump", 7) + [("when", "far")] + tells(8) + [("mark", "far")]
        self.assertEqual(lay(rows), [5, 1, 4, 4, 7] + [2] * 7 + [7, 0, 8] + [2] * 8)

    def test_far_one_after_the_other(self):
        for length in (1, 2, 3, 10, 366, 700):
            self.assertEqual(lay(chain(length, 0)), [4, 7, 2] * length + [2] * 6)
            cells = []
            for gap in ([9] * length + [8, 8])[-length:]:
                cells.extend([5, 0, gap, 2])
            self.assertEqual(lay(chain(length, 1)), cells + [2] * 7)

    def test_far_one_after_the_other_backwards(self):
        for length in (1, 2, 3, 10, 270, 700):
            self.assertEqual(lay(backward_chain(length, 0)), [2] * 4 + [2, 2, 6, -8] * length)
            self.assertEqual(lay(backward_chain(length, 1)), [2] * 5 + [2, 2, 7, -1, 6] * length)

    def test_the_least_of_all_ways(self):
        chance = random.Random(5)
        for turn in range(400):
            rows = some_rows(chance, chance.randint(1, 7), chance.randint(0, 14))
            with self.subTest(turn=turn, rows=rows):
                begins, cells = least_layout(rows)
                self.assertEqual(starts(rows), begins)
                self.assertEqual(lay(rows), cells)

    def test_a_far_one_could_not_be_near_with_the_others_as_they_are(self):
        chance = random.Random(6)
        for turn in range(60):
            rows = some_rows(chance, chance.randint(20, 120), chance.randint(20, 120))
            fars = far_places(rows)
            for place in fars:
                self.assertFalse(fits(rows, [other for other in fars if other != place]))
            self.assertTrue(fits(rows, fars))
            self.assertEqual(lay(rows), plain_cells(rows, fars))


def chain(length, more):
    """Jumps over the next two jumps, all with a gap of 7, but for what is more behind the last one."""
    rows = []
    for number in range(length):
        rows.extend([("mark", f"m{number}"), ("jump", f"m{number + 3}"), TELL])
    rows.extend([("mark", f"m{length}")] + tells(3))
    rows.extend([("mark", f"m{length + 1}")] + tells(3 + more))
    return rows + [("mark", f"m{length + 2}")]


def backward_chain(length, more):
    """Each `when` back over the one ahead of it, all with a gap of -8, but for what is more ahead of the first."""
    rows = [("mark", "m0")] + tells(4 + more)
    for number in range(length):
        rows.extend([("mark", f"m{number + 1}"), TELL, TELL, ("when", f"m{number}")])
    return rows


def leading_places(rows):
    return [place for place, row in enumerate(rows) if row[0] in ("jump", "when")]


def far_places(rows):
    begins = starts(rows)
    return [place for place in leading_places(rows) if begins[place + 1] - begins[place] == 3]


def plain_begins(rows, fars):
    begins = [0]
    for place, row in enumerate(rows):
        size = 3 if place in fars else {"mark": 0, "tell": 1, "halt": 1}.get(row[0], 2)
        begins.append(begins[-1] + size)
    return begins


def plain_gap(rows, begins, place):
    return begins[rows.index(("mark", rows[place][1]))] - begins[place + 1]


def fits(rows, fars):
    begins = plain_begins(rows, fars)
    nears = [place for place in leading_places(rows) if place not in fars]
    return all(-8 <= plain_gap(rows, begins, place) <= 7 for place in nears)


def least_layout(rows):
    """Tries every choice of far rows; what is far in all that fit is far."""
    leading = leading_places(rows)
    fitting = []
    for count in range(len(leading) + 1):
        for fars in itertools.combinations(leading, count):
            if fits(rows, fars):
                fitting.append(set(fars))
    fars = sorted(set.intersection(*fitting))
    return plain_begins(rows, fars), plain_cells(rows, fars)


def plain_cells(rows, fars):
    begins = plain_begins(rows, fars)
    cells = []
    for place, row in enumerate(rows):
        if row[0] in ("jump", "when"):
            gap = plain_gap(rows, begins, place)
            number = 4 if row[0] == "jump" else 6
            if place in fars:
                second = next(b for b in range(16) if (gap - b) % 16 == 0)
                cells.extend([number + 1, (gap - second) // 16, second])
            else:
                cells.extend([number, gap])
        elif row[0] == "grow":
            cells.extend([1, row[1]])
        elif row[0] != "mark":
            cells.append({"tell": 2, "halt": 3}[row[0]])
    return cells


class TestManyRows(unittest.TestCase):
    def test_eleven_hundred_rows_and_all_cells(self):
        for count in (1100, 1500, 3000):
            rows = [("jump", "end")] * count + [("mark", "end")]
            begins = starts(rows)
            # The last four go over at most three near ones, which are six cells.
            far = count - 4
            self.assertEqual(begins, [3 * place for place in range(far)] + [3 * far + 2 * k for k in range(5)] +
                             [3 * far + 8])
            cells = lay(rows)
            self.assertEqual(cells[-8:], [4, 6, 4, 4, 4, 2, 4, 0])
            self.assertEqual(cells[:3], [5] + list(divmod(len(cells) - 3, 16)))

    def test_every_row_far(self):
        count = 1100
        rows = [("when", "end")] * count + tells(8) + [("mark", "end")]
        cells = lay(rows)
        self.assertEqual(len(cells), 3 * count + 8)
        for place in range(count):
            self.assertEqual(cells[3 * place:3 * place + 3],
                             [7] + list(divmod(3 * (count - 1 - place) + 8, 16)))


class TestNothingIsChanged(unittest.TestCase):
    def test_rows_are_the_same_after_the_call(self):
        chance = random.Random(7)
        for turn in range(50):
            rows = some_rows(chance, 20, 30)
            before = copy.deepcopy(rows)
            parts = [id(row) for row in rows]
            for call in (starts, lay):
                call(rows)
                self.assertEqual(rows, before)
                self.assertEqual([id(row) for row in rows], parts)

    def test_the_same_rows_give_the_same_answers(self):
        rows = some_rows(random.Random(8), 30, 30)
        first = (starts(rows), lay(rows))
        lay([("jump", "m1"), ("mark", "m1")])
        self.assertEqual((starts(rows), lay(rows)), first)


if __name__ == "__main__":
    unittest.main()
