"""The machine, which does rows and cells."""

from stepcells.back import placed_rows
from stepcells.rows import checked_marks


# For each place, the first one from there on that isn't a mark's: looked up beforehand,
# so that going round through many marks takes no longer than through one.
def doing_places(rows):
    places = [len(rows)] * (len(rows) + 1)
    for place in range(len(rows) - 1, -1, -1):
        places[place] = places[place + 1] if rows[place][0] == "mark" else place
    return places


def place_behind(rows, marks, place, number):
    row = rows[place]
    if row[0] == "halt":
        return len(rows)
    if row[0] == "jump" or (row[0] == "when" and number > 0):
        return marks[row[1]]
    return place + 1


def walked_rows(rows, number, steps):
    marks = checked_marks(rows)
    doing = doing_places(rows)
    held = number
    done = []
    told = []
    place = doing[0]
    while place < len(rows) and len(done) < steps:
        row = rows[place]
        if row[0] == "grow":
            held = held + row[1]
        if row[0] == "tell":
            told.append(held)
        done.append((place, held))
        place = doing[place_behind(rows, marks, place, held)]
    return (done, told)


def walked_cells(cells, number, steps):
    placed = placed_rows(cells)
    walked = walked_rows([row for cell, row in placed], number, steps)
    return ([(placed[place][0], held) for place, held in walked[0]], walked[1])
