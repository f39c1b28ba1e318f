"""Rows written as lines, and lines read to rows."""

from stepcells.errors import NoLine
from stepcells.rows import FIGURES, LEADING_WORDS, LONE_WORDS, is_name


# Figure by figure, as in `number_of`: Python's own `str` and `int` refuse numbers of some thousand figures,
# and here no number is refused for its length.
def figures_of(size):
    signs = [FIGURES[size % 10]]
    rest = size // 10
    while rest > 0:
        signs.append(FIGURES[rest % 10])
        rest = rest // 10
    return "".join(reversed(signs))


def written_part(part):
    if not isinstance(part, int):
        return str(part)
    if part < 0:
        return "-" + figures_of(-part)
    return figures_of(part)


# Part by part, so that a tuple that is no row is written too, in place of a refusal.
def line_of(row):
    parts = [written_part(part) for part in row]
    if row[0] == "mark" and len(row) == 2:
        return parts[1] + ":"
    return " ".join(parts)


def shown(rows):
    return [line_of(row) for row in rows]


def without_minus(text):
    return text[1:] if text.startswith("-") else text


def is_written_number(text):
    if text == "0":
        return True
    figures = without_minus(text)
    if figures == "" or figures[0] == "0":
        return False
    return all([sign in FIGURES for sign in figures])


def number_of(text):
    size = 0
    for sign in without_minus(text):
        size = size * 10 + int(sign)
    return -size if text.startswith("-") else size


def row_of(line):
    if line.endswith(":") and is_name(line[:-1]):
        return ("mark", line[:-1])
    if line in LONE_WORDS:
        return (line,)
    parts = line.split(" ")
    if len(parts) == 2 and parts[0] in LEADING_WORDS and is_name(parts[1]):
        return (parts[0], parts[1])
    if len(parts) == 2 and parts[0] == "grow" and is_written_number(parts[1]):
        return ("grow", number_of(parts[1]))
    raise NoLine(f"no row is written as {line!r}")


def read(lines):
    return [row_of(line) for line in lines]
