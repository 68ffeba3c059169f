"""Whether a choice is let by, and else the shortest way to what isn't the same (point 7).

Whether a name lies in a cell behind a row hangs on some such pairs ahead of the row, all of which
must hold. So where one doesn't hold, one lack ahead of the row is enough to tell why, and lacks can
be followed one by one: there are few of them, however many layouts there are on all ways.
"""

from boxwitness.choices import check_all
from boxwitness.layouts import first_layout, passed, without
from boxwitness.programs import steps_of


def checked(program, frame, choice):
    """Tell None of a choice that is let by, else (ways, row) of what isn't the same."""
    check_all(program, frame, choice)
    return first_wrong(program, frame, choice)


def first_wrong(program, frame, choice):
    """What checked tells of a choice that was checked before."""
    at_first = first_layout(frame, choice[0])
    # Each (row, lack) that is come to by so many rows and no fewer, and the least way to it.
    front = {(0, lack): () for lack in lacks_of(program[1], at_first)}
    seen = {}
    while front:
        wrong = [(ways, at) for (at, lack), ways in front.items() if is_wrong(program, frame, choice, at, lack)]
        if wrong:
            least_way, row = min(wrong)
            return list(least_way), row
        for spot in front:
            seen[spot] = True
        front = next_front(program, frame, choice, front, seen)
    return None


def lacks_of(names, layout):
    """None, for no lack at all, then each (cell, name) where the name doesn't lie in the cell."""
    # A row may make a lack where there was none ahead of it, so None is followed too.
    return [None] + [
        (cell, name)
        for cell, held in enumerate(layout)
        for name in range(names)
        if name not in held
    ]


def all_but(names, cells, lack):
    """A layout by which each name lies in each cell, but for the one lack."""
    everything = tuple(range(names))
    layout = [everything] * cells
    if lack is not None:
        cell, name = lack
        layout[cell] = without(everything, name)
    return tuple(layout)


def followed(program, frame, choice, at, lack):
    """What passed tells of a row ahead of which there is just this lack."""
    layout = all_but(program[1], frame[0] + frame[1], lack)
    return passed(program[2][at], frame, choice[1][at], layout)


def is_wrong(program, frame, choice, at, lack):
    """Whether the row is a say or an if that isn't the same by the lack."""
    if program[2][at][0] not in ("say", "if"):
        return False
    return not followed(program, frame, choice, at, lack)[0]


def next_front(program, frame, choice, front, seen):
    """What is come to by one row more and wasn't seen, with the least way to it."""
    rows = program[2]
    coming = {}
    for (at, lack), ways in front.items():
        behind = followed(program, frame, choice, at, lack)[1]
        for truths, after in steps_of(rows, at):
            longer = ways + truths
            for spot in [(after, one) for one in lacks_of(program[1], behind)]:
                if spot not in seen:
                    coming[spot] = min(longer, coming.get(spot, longer))
    return coming
