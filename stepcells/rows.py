"""What names and rows are, and how rows are refused."""

from stepcells.errors import NoMark, NoRow, TwoMarks

# Written out, for the tests of letters that Python's texts have let other alphabets by.
LETTERS = "abcdefghijklmnopqrstuvwxyz"
FIGURES = "0123456789"

LONE_WORDS = ("tell", "halt")
NAMED_WORDS = ("mark", "jump", "when")
LEADING_WORDS = ("jump", "when")


def is_name(text):
    if text == "" or text[0] not in LETTERS:
        return False
    return all([sign in LETTERS or sign in FIGURES for sign in text])


def is_row(row):
    word = row[0]
    if word in LONE_WORDS:
        return len(row) == 1
    if word == "grow":
        return len(row) == 2
    if word in NAMED_WORDS:
        return len(row) == 2 and is_name(row[1])
    return False


def leads(row):
    return row[0] in LEADING_WORDS


def refuse_other_tuples(rows):
    for place, row in enumerate(rows):
        if not is_row(row):
            # The place alone is told: Python won't write out a number of some thousand figures.
            raise NoRow(f"what stands at place {place} is no row")


def mark_places(rows):
    places = {}
    for place, row in enumerate(rows):
        if row[0] == "mark":
            name = row[1]
            if name in places:
                raise TwoMarks(f"two marks have the name {name}")
            places[name] = place
    return places


def refuse_unmarked_names(rows, places):
    for row in rows:
        if leads(row) and row[1] not in places:
            name = row[1]
            raise NoMark(f"no mark has the name {name}")


# Each walk goes over all rows, so that an earlier refusal comes ahead of a later one wherever the rows stand.
def checked_marks(rows):
    refuse_other_tuples(rows)
    places = mark_places(rows)
    refuse_unmarked_names(rows, places)
    return places
