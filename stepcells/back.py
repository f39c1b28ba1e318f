"""Cells read back to rows."""

from stepcells.errors import NoCells
from stepcells.layout import FAR_UNIT, is_near_gap

WORDS = {1: "grow", 2: "tell", 3: "halt", 4: "jump", 5: "jump", 6: "when", 7: "when"}
SIZES = {1: 2, 2: 1, 3: 1, 4: 2, 5: 3, 6: 2, 7: 3}
NEAR_FIRSTS = (4, 6)
FAR_FIRSTS = (5, 7)


def end_at(cells, cell):
    first = cells[cell]
    if first not in SIZES:
        raise NoCells(f"no row begins with what stands at cell {cell}")
    end = cell + SIZES[first]
    if end > len(cells):
        raise NoCells(f"the row at cell {cell} goes beyond the last cell")
    return end


# Each cell at which a row begins, with the cell straight behind that row.
def ends_of(cells):
    ends = {}
    cell = 0
    while cell < len(cells):
        ends[cell] = end_at(cells, cell)
        cell = ends[cell]
    return ends


def near_gap(cells, cell):
    gap = cells[cell + 1]
    if not is_near_gap(gap):
        raise NoCells(f"the gap at cell {cell} is no near one")
    return gap


def far_gap(cells, cell):
    second = cells[cell + 2]
    if second < 0 or second >= FAR_UNIT:
        raise NoCells(f"the second cell of the far gap at cell {cell} is out of its bounds")
    return cells[cell + 1] * FAR_UNIT + second


# Each cell at which a jump or `when` begins, with the cell to which its gap leads.
def goals_of(cells, ends):
    goals = {}
    for cell in ends:
        if cells[cell] in NEAR_FIRSTS:
            goals[cell] = ends[cell] + near_gap(cells, cell)
        if cells[cell] in FAR_FIRSTS:
            goals[cell] = ends[cell] + far_gap(cells, cell)
    return goals


def refuse_other_goals(cells, ends, goals):
    for cell, goal in goals.items():
        if goal not in ends and goal != len(cells):
            # The goal isn't told: Python won't write out a number of some thousand figures.
            raise NoCells(f"the gap at cell {cell} leads to no row")


def cell_name(cell):
    return f"at{cell}"


def row_at(cells, goals, cell):
    word = WORDS[cells[cell]]
    if cell in goals:
        return (word, cell_name(goals[cell]))
    if word == "grow":
        return (word, cells[cell + 1])
    return (word,)


# The rows, each in a pair behind the cell at which it begins: far gaps that would fit as near ones
# are let by, so the layout of the rows doesn't tell where they stood.
def placed_rows(cells):
    ends = ends_of(cells)
    goals = goals_of(cells, ends)
    refuse_other_goals(cells, ends, goals)
    marked = {}
    for goal in goals.values():
        marked[goal] = True
    placed = []
    for cell in ends:
        if cell in marked:
            placed.append((cell, ("mark", cell_name(cell))))
        placed.append((cell, row_at(cells, goals, cell)))
    if len(cells) in marked:
        placed.append((len(cells), ("mark", cell_name(len(cells)))))
    return placed


def rows_of(cells):
    return [row for cell, row in placed_rows(cells)]
