"""What several test files need."""


def some_rows(chance, leading, others):
    """Rows that aren't refused, with so many jumps and `when`s and so many other rows, in any order."""
    names = [f"m{number}" for number in range(chance.randint(1, leading + 1))]
    rows = [("mark", name) for name in names]
    rows += [(chance.choice(("jump", "when")), chance.choice(names)) for number in range(leading)]
    rows += [chance.choice((("tell",), ("halt",), ("grow", chance.randint(-20, 20)))) for number in range(others)]
    chance.shuffle(rows)
    return rows


def brief(rows):
    """What can be shown of rows: Python won't write out a number of five thousand figures."""
    return [tuple(part if isinstance(part, str) else ".." for part in row) for row in rows[:9]]
