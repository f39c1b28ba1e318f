"""The layout of rows in cells, with the least sizes."""

from stepcells.rows import checked_marks, leads

NEAR_SIZES = {"mark": 0, "grow": 2, "tell": 1, "jump": 2, "when": 2, "halt": 1}
FAR_SIZE = 3

GROW_CELL = 1
TELL_CELL = 2
HALT_CELL = 3
NEAR_CELLS = {"jump": 4, "when": 6}
FAR_CELLS = {"jump": 5, "when": 7}

LEAST_NEAR_GAP = -8
MOST_NEAR_GAP = 7
FAR_UNIT = 16


def begins_of(sizes):
    cell = 0
    begins = [cell]
    for size in sizes:
        cell = cell + size
        begins.append(cell)
    return begins


def gap_at(rows, marks, begins, place):
    name = rows[place][1]
    return begins[marks[name]] - begins[place + 1]


def is_near_gap(gap):
    return LEAST_NEAR_GAP <= gap and gap <= MOST_NEAR_GAP


def is_far_at(begins, place):
    return begins[place + 1] - begins[place] == FAR_SIZE


def must_grow(rows, marks, begins, place):
    if not leads(rows[place]) or is_far_at(begins, place):
        return False
    return not is_near_gap(gap_at(rows, marks, begins, place))


def growing_places(rows, marks, begins):
    return [place for place in range(len(rows)) if must_grow(rows, marks, begins, place)]


# A row that grows brings no gap nearer to nought. So what doesn't fit while all others are
# no larger than they have to be is far in every layout, and nothing else is made far.
def least_begins(rows, marks):
    sizes = [NEAR_SIZES[row[0]] for row in rows]
    begins = begins_of(sizes)
    growing = growing_places(rows, marks, begins)
    while len(growing) > 0:
        for place in growing:
            sizes[place] = FAR_SIZE
        begins = begins_of(sizes)
        growing = growing_places(rows, marks, begins)
    return begins


def leading_cells(rows, marks, begins, place):
    word = rows[place][0]
    gap = gap_at(rows, marks, begins, place)
    if is_far_at(begins, place):
        return [FAR_CELLS[word], gap // FAR_UNIT, gap % FAR_UNIT]
    return [NEAR_CELLS[word], gap]


def cells_at(rows, marks, begins, place):
    row = rows[place]
    if row[0] == "mark":
        return []
    if row[0] == "grow":
        return [GROW_CELL, row[1]]
    if row[0] == "tell":
        return [TELL_CELL]
    if row[0] == "halt":
        return [HALT_CELL]
    return leading_cells(rows, marks, begins, place)


def starts(rows):
    return least_begins(rows, checked_marks(rows))


def lay(rows):
    marks = checked_marks(rows)
    begins = least_begins(rows, marks)
    cells = []
    for place in range(len(rows)):
        cells.extend(cells_at(rows, marks, begins, place))
    return cells
