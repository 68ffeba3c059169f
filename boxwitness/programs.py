"""Programs over names: which can be, and what comes behind a row (point 2)."""

from boxwitness.errors import BadProgram
from boxwitness.kinds import VALUE_MOST, is_number, is_tuple_of

NAMES_MOST = 8
ROWS_MOST = 24

PARTS = {
    "put": ("name", "number"),
    "copy": ("name", "name"),
    "add": ("name", "name", "name"),
    "take": ("name", "name", "name"),
    "less": ("name", "name", "name"),
    "call": ("name", "name"),
    "say": ("name",),
    "if": ("name", "row"),
    "go": ("row",),
    "end": (),
}

MAKERS = ("put", "copy", "add", "take", "less", "call")


def check_program(program):
    """Refuse what is no program."""
    if not head_can_be(program):
        raise BadProgram(-1)
    names = program[1]
    rows = program[2]
    # A row that no program has can't be told either, even where too many rows are handed in.
    many = min(len(rows), ROWS_MOST)
    for at, row in enumerate(rows):
        if at == ROWS_MOST or not row_can_be(row, names, many):
            raise BadProgram(at)


def head_can_be(program):
    """Whether all but the rows themselves can be."""
    if not is_tuple_of(program, 3):
        return False
    params, names, rows = program
    # The rows can only be judged once it is known how many names there are.
    if not is_number(names, 1, NAMES_MOST) or not is_number(params, 0, names):
        return False
    return isinstance(rows, tuple) and len(rows) > 0


def row_can_be(row, names, many):
    """Whether it is a row of a program of so many names and rows."""
    if not isinstance(row, tuple) or not row or not isinstance(row[0], str):
        return False
    if row[0] not in PARTS:
        return False
    parts = PARTS[row[0]]
    highest = {"name": names - 1, "number": VALUE_MOST, "row": many - 1}
    if len(row) != len(parts) + 1:
        return False
    return all(is_number(told, 0, highest[part]) for part, told in zip(parts, row[1:]))


def names_of(row):
    """The row's names, in turn."""
    return tuple(told for part, told in zip(PARTS[row[0]], row[1:]) if part == "name")


def handed(row, ones):
    """Of the row's names, or its boxes, those that it is handed."""
    # What a row makes something for stands first.
    return ones[1:] if row[0] in MAKERS else ones


def at_end(rows, at):
    """Whether a run that comes to this row ends there."""
    return at == len(rows) or rows[at][0] == "end"


def next_row(row, at, jumps):
    """The number of the row that comes behind this one; jumps tells it of an if."""
    if row[0] == "go":
        return row[1]
    if row[0] == "if" and jumps:
        return row[2]
    return at + 1


def steps_of(rows, at):
    """For each row that may come behind this one on some way the truths that this adds to the way, and its number."""
    if at_end(rows, at):
        return []
    ways = [(False,), (True,)] if rows[at][0] == "if" else [()]
    steps = [(truths, next_row(rows[at], at, truths == (True,))) for truths in ways]
    return [(truths, after) for truths, after in steps if after < len(rows)]


def next_rows(rows, at):
    """The numbers of all rows that may come behind this one on some way."""
    return [after for truths, after in steps_of(rows, at)]
