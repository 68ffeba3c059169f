"""Papers: what lies where ahead of each row on all ways, and whether that shows it (points 8 and 9)."""

from boxwitness.choices import check_all
from boxwitness.errors import BadPaper
from boxwitness.kinds import is_rising, is_tuple_of
from boxwitness.layouts import first_layout, passed, shared, tells_no_more
from boxwitness.programs import next_rows


def paper(program, frame, choice):
    """Tell for each row what lies where ahead of it on all ways that lead there."""
    check_all(program, frame, choice)
    return parts_of(program, frame, choice)


def parts_of(program, frame, choice):
    """The paper of a choice that was checked before."""
    rows = program[2]
    parts = [None] * len(rows)
    parts[0] = first_layout(frame, choice[0])
    waiting = [0]
    while waiting:
        at = waiting.pop()
        behind = passed(rows[at], frame, choice[1][at], parts[at])[1]
        for after in next_rows(rows, at):
            part = met(parts[after], behind)
            # A part only ever tells less than before, so this comes to an end.
            if part != parts[after]:
                parts[after] = part
                waiting.append(after)
    return parts


def met(part, layout):
    """What is left of a row's part where one more way leads to the row."""
    return layout if part is None else shared(part, layout)


def shows(program, frame, choice, told):
    """Tell whether the paper shows that the choice is let by."""
    check_all(program, frame, choice)
    check_paper(program, frame, told)
    if not is_covered(told[0], first_layout(frame, choice[0])):
        return False
    return rows_show(program, frame, choice, told)


def is_let_by(program, frame, choice):
    """Whether a choice that was checked before is let by."""
    return rows_show(program, frame, choice, parts_of(program, frame, choice))


def rows_show(program, frame, choice, told):
    """Whether each row's part is enough."""
    return all(row_shows(program, frame, choice, told, at) for at in range(len(told)))


def row_shows(program, frame, choice, told, at):
    """Whether the row's part is enough for the row itself and for all rows that may be next."""
    if told[at] is None:
        return True
    rows = program[2]
    same, behind = passed(rows[at], frame, choice[1][at], told[at])
    if rows[at][0] in ("say", "if") and not same:
        return False
    return all(is_covered(told[after], behind) for after in next_rows(rows, at))


def is_covered(part, layout):
    """Whether there is a part, and it tells no more than lies where."""
    return part is not None and tells_no_more(part, layout)


def check_paper(program, frame, told):
    """Refuse what is no paper for this program and frame."""
    # What is no list has no parts, so that the first one lacks.
    if not isinstance(told, list):
        raise BadPaper(0)
    many = len(program[2])
    for at, part in enumerate(told):
        if at == many or not part_can_be(part, program[1], frame[0] + frame[1]):
            raise BadPaper(at)
    if len(told) < many:
        raise BadPaper(len(told))


def part_can_be(part, names, cells):
    """Whether it is None, or tells for each cell a rising tuple of names."""
    if part is None:
        return True
    return is_tuple_of(part, cells) and all(is_rising(held, names) for held in part)
