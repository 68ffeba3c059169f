"""Frames and choices: which can be, and what moves do (point 4).

Cells are the boxes and, behind them, the slots, in one list.
"""

from boxwitness.errors import BadChoice, BadFrame
from boxwitness.kinds import is_number, is_rising, is_tuple_of
from boxwitness.programs import check_program, names_of

BOXES_MOST = 6
SLOTS_MOST = 8
MOVES_MOST = 6

MOVES = {
    "copy": ("box", "box"),
    "swap": ("box", "box"),
    "store": ("slot", "box"),
    "load": ("box", "slot"),
}

# Behind these there is no one place where moves could be done.
WITHOUT_BEHIND = ("go", "if", "end")


def check_all(program, frame, choice):
    """Refuse what is no program, no frame or no choice, in this order."""
    check_program(program)
    check_frame(frame)
    check_choice(program, frame, choice)


def check_frame(frame):
    """Refuse what is no frame."""
    if not frame_can_be(frame):
        raise BadFrame("no frame")


def frame_can_be(frame):
    """Whether it is a frame."""
    if not is_tuple_of(frame, 3):
        return False
    boxes, slots, eaten = frame
    if not is_number(boxes, 1, BOXES_MOST) or not is_number(slots, 0, SLOTS_MOST):
        return False
    return is_rising(eaten, boxes)


def check_choice(program, frame, choice):
    """Refuse what is no choice for this program and frame."""
    if not is_tuple_of(choice, 2):
        raise BadChoice(-1)
    places, groups = choice
    if not places_can_be(program, frame, places) or not isinstance(groups, tuple):
        raise BadChoice(-1)
    rows = program[2]
    for at, group in enumerate(groups):
        if at == len(rows) or not group_can_be(rows[at], frame, group):
            raise BadChoice(at)
    if len(groups) < len(rows):
        raise BadChoice(len(groups))


def places_can_be(program, frame, places):
    """Whether these are places for the params, an own one for each."""
    if not is_tuple_of(places, program[0]):
        return False
    if not all(place_can_be(frame, place) for place in places):
        return False
    return len(set(places)) == len(places)


def place_can_be(frame, place):
    """Whether it is a box or a slot of the frame."""
    if not is_tuple_of(place, 2) or place[0] not in ("box", "slot"):
        return False
    return is_number(place[1], 0, highest_of(frame, place[0]))


def highest_of(frame, part):
    """The highest number of a box, or of a slot."""
    return frame[0] - 1 if part == "box" else frame[1] - 1


def group_can_be(row, frame, group):
    """Whether it is a group for the row."""
    if not is_tuple_of(group, 3):
        return False
    ahead, boxes, behind = group
    if not moves_can_be(frame, ahead) or not moves_can_be(frame, behind):
        return False
    if behind and row[0] in WITHOUT_BEHIND:
        return False
    if not is_tuple_of(boxes, len(names_of(row))):
        return False
    return all(is_number(box, 0, highest_of(frame, "box")) for box in boxes)


def moves_can_be(frame, moves):
    """Whether these are moves, and not too many."""
    if not isinstance(moves, tuple) or len(moves) > MOVES_MOST:
        return False
    return all(move_can_be(frame, move) for move in moves)


def move_can_be(frame, move):
    """Whether it is a move between boxes and slots of the frame."""
    if not is_tuple_of(move, 3) or not isinstance(move[0], str) or move[0] not in MOVES:
        return False
    parts = MOVES[move[0]]
    return all(is_number(told, 0, highest_of(frame, part)) for part, told in zip(parts, move[1:]))


def cell_of(frame, part, number):
    """Where a box, or a slot, stands among the cells."""
    return number if part == "box" else frame[0] + number


def place_cells(frame, places):
    """Where the params' places stand among the cells, in turn."""
    return [cell_of(frame, part, number) for part, number in places]


def do_moves(frame, moves, cells):
    """Change the cells as the moves tell, in turn."""
    for word, one, other in moves:
        parts = MOVES[word]
        left = cell_of(frame, parts[0], one)
        right = cell_of(frame, parts[1], other)
        if word == "swap":
            cells[left], cells[right] = cells[right], cells[left]
        else:
            cells[left] = cells[right]
