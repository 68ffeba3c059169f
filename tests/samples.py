"""What several tests need: sample programs, plain choices, and how refusals are asked for."""

from boxwitness.checking import checked
from boxwitness.errors import BadChoice, BadCount, BadFrame, BadProgram, TooMany
from boxwitness.keeping import Witness
from boxwitness.marks import walk
from boxwitness.mends import least, made, renumbered
from boxwitness.notes import read_choice, written, written_choice
from boxwitness.papers import paper, shows
from boxwitness.programs import names_of
from boxwitness.runs import run, run_boxes

FRAME = (4, 2, (0, 1))

# Counts down from what is handed in: says 3, 2, 1 of 3.
LOOP = (
    1,
    3,
    (
        ("put", 1, 1),
        ("less", 2, 0, 1),
        ("if", 2, 6),
        ("say", 0),
        ("take", 0, 0, 1),
        ("go", 1),
        ("end",),
    ),
)

# One row of each kind; 10 rows.
ALL_KINDS = (
    2,
    4,
    (
        ("put", 2, 5),
        ("copy", 3, 0),
        ("add", 2, 2, 3),
        ("take", 3, 2, 1),
        ("less", 0, 3, 1),
        ("call", 1, 2),
        ("say", 1),
        ("if", 0, 9),
        ("go", 6),
        ("end",),
    ),
)


def bare_groups(program):
    """Groups without moves, where each name's box has the name's number."""
    return tuple(((), names_of(row), ()) for row in program[2])


def bare(program):
    """The choice without moves where each name lies in the box of its number."""
    return tuple(("box", name) for name in range(program[0])), bare_groups(program)


def with_group(choice, at, group):
    """The choice with another group at a row."""
    places, groups = choice
    return places, groups[:at] + (group,) + groups[at + 1:]


def with_row(program, at, row):
    """The program with another row."""
    params, names, rows = program
    return params, names, rows[:at] + (row,) + rows[at + 1:]


def empty_paper(program, frame):
    """A paper that tells nothing of any row, but that each may be come to."""
    return [((),) * (frame[0] + frame[1]) for row in program[2]]


def least_or_too_many(program, frame, choice):
    """What least tells, where the program has no more rows than it takes."""
    try:
        return least(program, frame, choice, 0)
    except TooMany:
        return None


def renumbered_or_refused(program, frame, choice):
    """Nothing, where nothing but the order is refused."""
    try:
        return renumbered(program, frame, choice, None)
    except BadCount:
        return None


# All that take a program, and all that take a frame and a choice, with the rest as it should be where it can,
# and else something wrong that is refused behind these.
TAKES_PROGRAM = (
    lambda program: run(program, (), 10),
    lambda program: run_boxes(program, FRAME, ((), ()), (), 10, []),
    lambda program: walk(program, FRAME, ((), ()), []),
    lambda program: paper(program, FRAME, ((), ())),
    lambda program: shows(program, FRAME, ((), ()), []),
    lambda program: checked(program, FRAME, ((), ())),
    lambda program: made(program, FRAME),
    lambda program: least(program, FRAME, ((), ()), 0),
    lambda program: renumbered(program, FRAME, ((), ()), (0, 1, 2, 3)),
    lambda program: Witness(program, FRAME, ((), ())),
    lambda program: written(program),
    lambda program: written_choice(program, FRAME, ((), ())),
    lambda program: read_choice(program, FRAME, "places"),
)
TAKES_CHOICE = (
    lambda program, frame, choice: run_boxes(program, frame, choice, (1,) * program[0], 10, []),
    lambda program, frame, choice: walk(program, frame, choice, []),
    lambda program, frame, choice: paper(program, frame, choice),
    lambda program, frame, choice: shows(program, frame, choice, [None] * len(program[2])),
    lambda program, frame, choice: checked(program, frame, choice),
    lambda program, frame, choice: least_or_too_many(program, frame, choice),
    lambda program, frame, choice: renumbered_or_refused(program, frame, choice),
    lambda program, frame, choice: Witness(program, frame, choice),
    lambda program, frame, choice: written_choice(program, frame, choice),
)
TAKES_FRAME = TAKES_CHOICE + (
    lambda program, frame, choice: made(program, frame),
    lambda program, frame, choice: read_choice(program, frame, "places"),
)


def refuses_program(test, program, row):
    """Each function that takes a program refuses this one with the row."""
    for function in TAKES_PROGRAM:
        with test.subTest(program=program), test.assertRaises(BadProgram) as caught:
            function(program)
        test.assertEqual(caught.exception.row, row)


def refuses_frame(test, program, frame):
    """Each function that takes a frame refuses this one."""
    for function in TAKES_FRAME:
        with test.subTest(frame=frame), test.assertRaises(BadFrame):
            function(program, frame, bare(program))


def refuses_choice(test, program, frame, choice, row):
    """Each function that takes a choice refuses this one with the row."""
    for function in TAKES_CHOICE:
        with test.subTest(choice=choice), test.assertRaises(BadChoice) as caught:
            function(program, frame, choice)
        test.assertEqual(caught.exception.row, row)


def takes_choice(program, frame, choice):
    """Each function that takes a choice takes this one (else the test ends in an error)."""
    for function in TAKES_CHOICE:
        function(program, frame, choice)
