"""Runs over names, and by boxes (points 3 and 5)."""

from boxwitness.choices import check_all, do_moves, place_cells
from boxwitness.errors import BadCount, BadGiven
from boxwitness.kinds import are_values, is_number, is_tuple_of
from boxwitness.programs import MAKERS, at_end, check_program, handed, names_of, next_row

FUEL_MOST = 1000
REST_BY = 1000


class Machine:
    """What lies in the cells of a frame while a run goes on."""

    def __init__(self, frame, junk):
        self.frame = frame
        self.junk = junk
        self.spent = 0
        self.cells = []
        while len(self.cells) < frame[0] + frame[1]:
            self.cells.append(self.unknown())

    def unknown(self):
        """Something that nobody knows."""
        if not self.junk:
            return 0
        number = self.junk[self.spent % len(self.junk)]
        self.spent += 1
        return number

    def do_row(self, row, group):
        """Do the row and its moves, and tell what it was handed."""
        ahead, boxes, behind = group
        do_moves(self.frame, ahead, self.cells)
        numbers = [self.cells[box] for box in handed(row, boxes)]
        if row[0] == "call":
            self.eat()
        if row[0] in MAKERS:
            self.cells[boxes[0]] = made_of(row, numbers)
        do_moves(self.frame, behind, self.cells)
        return numbers

    def eat(self):
        """Do to the eaten boxes what a call does."""
        for box in self.frame[2]:
            self.cells[box] = self.unknown()


def made_of(row, numbers):
    """What the row makes of the numbers that it is handed."""
    word = row[0]
    if word == "put":
        return row[2]
    if word == "copy":
        return numbers[0]
    if word == "call":
        return (7 * numbers[0] * numbers[0] + numbers[0] + 3) % REST_BY
    one, other = numbers
    if word == "add":
        return (one + other) % REST_BY
    if word == "take":
        return (one - other) % REST_BY
    return 1 if one < other else 0


def told_of(rows, groups, fuel, machine):
    """Do rows until the end or until fuel is spent, and tell what run tells."""
    said = []
    at = done = 0
    while not at_end(rows, at):
        if done == fuel:
            return said, ("long",), done
        numbers = machine.do_row(rows[at], groups[at])
        if rows[at][0] == "say":
            said.append(numbers[0])
        at = next_row(rows[at], at, numbers != [0])
        done += 1
    return said, ("end",), done


def check_given(program, given, fuel):
    """Refuse what can't be handed in for the params, then what is no fuel."""
    if not is_tuple_of(given, program[0]) or not are_values(given):
        raise BadGiven("not a number from 0 to 999 for each param")
    if not is_number(fuel, 0, FUEL_MOST):
        raise BadCount("fuel is not from 0 to 1000")


def run(program, given, fuel):
    """Tell (said, end, done) of the program over names."""
    check_program(program)
    check_given(program, given, fuel)
    params, names, rows = program
    # Over names a program is done as by one box for each name, where nothing is unknown.
    machine = Machine((names, 0, ()), [])
    machine.cells[:params] = list(given)
    groups = [((), names_of(row), ()) for row in rows]
    return told_of(rows, groups, fuel, machine)


def run_boxes(program, frame, choice, given, fuel, junk):
    """Tell (said, end, done) of the program done by boxes."""
    check_all(program, frame, choice)
    check_given(program, given, fuel)
    if not isinstance(junk, list) or not are_values(junk):
        raise BadGiven("junk is not a list of numbers from 0 to 999")
    places, groups = choice
    machine = Machine(frame, junk)
    for cell, number in zip(place_cells(frame, places), given):
        machine.cells[cell] = number
    return told_of(program[2], groups, fuel, machine)
