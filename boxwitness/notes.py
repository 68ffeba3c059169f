"""Programs and choices as texts (point 14)."""

from boxwitness.choices import MOVES, check_all, check_choice, check_frame
from boxwitness.errors import BadText
from boxwitness.programs import PARTS, check_program

FIGURES = "0123456789"
FIGURES_MOST = 3


def written(program):
    """Tell the program's text."""
    check_program(program)
    params, names, rows = program
    return "\n".join([f"params {params} names {names}"] + [spaced(row) for row in rows])


def written_choice(program, frame, choice):
    """Tell the choice's text."""
    check_all(program, frame, choice)
    places, groups = choice
    head = spaced(["places"] + [word for place in places for word in place])
    return "\n".join([head] + [written_group(group) for group in groups])


def spaced(words):
    """The words and numbers with one blank between."""
    return " ".join(str(word) for word in words)


def written_group(group):
    """The line of a group."""
    ahead, boxes, behind = group
    return " | ".join([written_moves(ahead), spaced(boxes), written_moves(behind)])


def written_moves(moves):
    """The moves with a comma and a blank between."""
    return ", ".join(spaced(move) for move in moves)


def read(text):
    """Tell the program that the text tells."""
    lines = lines_of(text)
    told = [read_head(lines[0])] + [read_row(line) for line in lines[1:]]
    refuse_none(told)
    params, names = told[0]
    program = (params, names, tuple(told[1:]))
    check_program(program)
    return program


def read_choice(program, frame, text):
    """Tell the choice that the text tells."""
    check_program(program)
    check_frame(frame)
    lines = lines_of(text)
    told = [read_places(lines[0])] + [read_group(line) for line in lines[1:]]
    refuse_none(told)
    choice = (told[0], tuple(told[1:]))
    check_choice(program, frame, choice)
    return choice


def lines_of(text):
    """The rows of the text."""
    # What is no text has no rows, so that the first one lacks.
    if not isinstance(text, str):
        raise BadText(0)
    return text.split("\n")


def refuse_none(told):
    """Refuse the first of what was read that is none."""
    if None in told:
        raise BadText(told.index(None))


def read_head(line):
    """(params, names) of a program's first line, or None."""
    words = line.split(" ")
    if len(words) != 4 or words[0] != "params" or words[2] != "names":
        return None
    return read_numbers([words[1], words[3]])


def read_row(line):
    """The row that the line tells, or None."""
    told = read_words(line)
    if told is None or told[0] not in PARTS or len(told) != len(PARTS[told[0]]) + 1:
        return None
    return told


def read_move(piece):
    """The move that the piece of a line tells, or None."""
    told = read_words(piece)
    if told is None or told[0] not in MOVES or len(told) != len(MOVES[told[0]]) + 1:
        return None
    return told


def read_words(piece):
    """A tuple of a word and the numbers behind it, or None."""
    words = piece.split(" ")
    numbers = read_numbers(words[1:])
    return None if numbers is None else (words[0], *numbers)


def read_places(line):
    """The places of a choice's first line, or None."""
    words = line.split(" ")
    parts = words[1::2]
    numbers = read_numbers(words[2::2])
    if words[0] != "places" or numbers is None or len(parts) != len(numbers):
        return None
    if not all(part in ("box", "slot") for part in parts):
        return None
    return tuple(zip(parts, numbers))


def read_group(line):
    """The group that the line tells, or None."""
    pieces = line.split(" | ")
    if len(pieces) != 3:
        return None
    group = (read_moves(pieces[0]), read_boxes(pieces[1]), read_moves(pieces[2]))
    return None if None in group else group


def read_moves(piece):
    """The moves that the piece of a line tells, or None."""
    if piece == "":
        return ()
    moves = tuple(read_move(one) for one in piece.split(", "))
    return None if None in moves else moves


def read_boxes(piece):
    """The boxes that the piece of a line tells, or None."""
    return () if piece == "" else read_numbers(piece.split(" "))


def read_numbers(words):
    """A tuple of the numbers that the words tell, or None."""
    if not all(is_numeral(word) for word in words):
        return None
    return tuple(int(word) for word in words)


def is_numeral(word):
    """Whether it is one to three figures, none of them needless."""
    if not 1 <= len(word) <= FIGURES_MOST or not all(sign in FIGURES for sign in word):
        return False
    return word == "0" or word[0] != "0"
