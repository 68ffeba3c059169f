"""What lies where: for each cell the rising tuple of the names whose mark it has (points 8 and 9).

What a row does to it depends on nothing else, so no marks are needed here.
"""

from boxwitness.choices import do_moves, place_cells
from boxwitness.programs import MAKERS, handed, names_of


def first_layout(frame, places):
    """What lies where at first."""
    cells = [()] * (frame[0] + frame[1])
    for name, cell in enumerate(place_cells(frame, places)):
        cells[cell] = (name,)
    return tuple(cells)


def passed(row, frame, group, layout):
    """Tell whether each box that the row is handed has its name, and what lies where behind it."""
    ahead, boxes, behind = group
    names = names_of(row)
    cells = list(layout)
    do_moves(frame, ahead, cells)
    same = all(name in cells[box] for name, box in zip(handed(row, names), handed(row, boxes)))
    if row[0] == "copy":
        cells[boxes[0]] = cells[boxes[1]]
        cells = [with_copied(held, names[0], names[1]) for held in cells]
    elif row[0] in MAKERS:
        cells = [without(held, names[0]) for held in cells]
        if row[0] == "call":
            for box in frame[2]:
                cells[box] = ()
        cells[boxes[0]] = (names[0],) if same else ()
    do_moves(frame, behind, cells)
    return same, tuple(cells)


def without(held, name):
    """The names without this one."""
    return tuple(one for one in held if one != name)


def with_copied(held, name, other):
    """The names of a cell once the name has got the mark of the other one."""
    kept = without(held, name)
    return tuple(sorted([*kept, name])) if other in held else kept


def in_both(held, other):
    """The names that both cells have."""
    return tuple(name for name in held if name in other)


def shared(layout, other):
    """What lies where by both layouts."""
    return tuple(in_both(one, two) for one, two in zip(layout, other))


def tells_no_more(layout, other):
    """Whether the layout tells nothing that the other one doesn't."""
    return shared(layout, other) == layout
