"""Choices made, mended and renumbered (points 10, 11 and 12)."""

from boxwitness.choices import MOVES, check_all, check_frame
from boxwitness.errors import BadCount, NoRoom, TooMany
from boxwitness.kinds import is_number, is_tuple_of
from boxwitness.papers import is_let_by
from boxwitness.programs import MAKERS, check_program, handed, names_of

MADE_IN = 2
BOXES_NEEDED = 3
MENDED_ROWS_MOST = 6
MENDS_MOST = 2


def made(program, frame):
    """Tell a choice by which each name lies in the slot of its number."""
    check_program(program)
    check_frame(frame)
    if frame[0] < BOXES_NEEDED or frame[1] < program[1]:
        raise NoRoom("fewer than three boxes, or fewer slots than names")
    places = tuple(("slot", name) for name in range(program[0]))
    return places, tuple(made_group(row) for row in program[2])


def made_group(row):
    """The group that loads what the row is handed, and stores what it makes."""
    names = names_of(row)
    loads = tuple(("load", box, name) for box, name in enumerate(handed(row, names)))
    loaded = tuple(range(len(loads)))
    if row[0] in MAKERS:
        return loads, (MADE_IN, *loaded), (("store", names[0], MADE_IN),)
    return loads, loaded, ()


def least(program, frame, choice, most):
    """Tell the fewest boxes told otherwise by which the choice is let by, or None."""
    check_all(program, frame, choice)
    if not is_number(most, 0, MENDS_MOST):
        raise BadCount("not from 0 to 2")
    if len(program[2]) > MENDED_ROWS_MOST:
        raise TooMany("more than six rows")
    mends = mends_of(frame, choice[1])
    for many in range(most + 1):
        for told in lists_of(mends, many):
            if is_let_by(program, frame, mended(choice, told)):
                return told
    return None


def mends_of(frame, groups):
    """Each (row, which, box) that tells one box otherwise, rising."""
    return [
        (row, which, box)
        for row, group in enumerate(groups)
        for which, now in enumerate(group[1])
        for box in range(frame[0])
        if box != now
    ]


def lists_of(mends, many):
    """All rising lists of so many mends, each of another place, as lists ascend."""
    if many == 0:
        return [[]]
    shorter = lists_of(mends, many - 1)
    return [[mend, *rest] for mend in mends for rest in shorter if not rest or mend[:2] < rest[0][:2]]


def mended(choice, told):
    """The choice with the boxes that are told otherwise."""
    places, groups = choice
    changed = list(groups)
    for row, which, box in told:
        ahead, boxes, behind = changed[row]
        changed[row] = (ahead, boxes[:which] + (box,) + boxes[which + 1:], behind)
    return places, tuple(changed)


def renumbered(program, frame, choice, order):
    """Tell (frame, choice) by the new numbers of the boxes."""
    check_all(program, frame, choice)
    boxes, slots, eaten = frame
    if not is_order(order, boxes):
        raise BadCount("not a new number for each box")
    places, groups = choice
    new_frame = (boxes, slots, tuple(sorted(order[box] for box in eaten)))
    new_places = tuple((part, new_number(order, part, number)) for part, number in places)
    return new_frame, (new_places, tuple(renumbered_group(order, group) for group in groups))


def is_order(order, many):
    """Whether it is a tuple with an own number for each of so many boxes."""
    if not is_tuple_of(order, many) or not all(is_number(number, 0, many - 1) for number in order):
        return False
    return len(set(order)) == many


def new_number(order, part, number):
    """The number of a box, or of a slot, by the order."""
    return order[number] if part == "box" else number


def renumbered_group(order, group):
    """The group by the order."""
    ahead, boxes, behind = group
    return renumbered_moves(order, ahead), tuple(order[box] for box in boxes), renumbered_moves(order, behind)


def renumbered_moves(order, moves):
    """The moves by the order."""
    return tuple(renumbered_move(order, move) for move in moves)


def renumbered_move(order, move):
    """The move by the order."""
    word, one, other = move
    parts = MOVES[word]
    return word, new_number(order, parts[0], one), new_number(order, parts[1], other)
