"""Walks by marks, whatever numbers there are (point 6)."""

from boxwitness.choices import check_all, do_moves, place_cells
from boxwitness.programs import MAKERS, at_end, handed, names_of, next_row

WALK_MOST = 300


class Marks:
    """The marks that the names and the cells have while a walk goes on."""

    def __init__(self, names, frame, places):
        cells = frame[0] + frame[1]
        self.frame = frame
        self.named = list(range(names))
        self.cells = list(range(names, names + cells))
        self.newest = names + cells - 1
        for name, cell in enumerate(place_cells(frame, places)):
            self.cells[cell] = self.named[name]

    def fresh(self):
        """A mark that nothing else has."""
        self.newest += 1
        return self.newest

    def do_row(self, row, group):
        """Do the row and its moves, and tell whether it was handed the marks of its names."""
        ahead, boxes, behind = group
        names = names_of(row)
        do_moves(self.frame, ahead, self.cells)
        same = self.agree(handed(row, names), handed(row, boxes))
        if row[0] == "copy":
            self.named[names[0]] = self.named[names[1]]
            self.cells[boxes[0]] = self.cells[boxes[1]]
        elif row[0] in MAKERS:
            if row[0] == "call":
                self.eat()
            self.make(names[0], boxes[0], same)
        do_moves(self.frame, behind, self.cells)
        return same

    def agree(self, names, boxes):
        """Whether each box has the mark of its name."""
        return all(self.named[name] == self.cells[box] for name, box in zip(names, boxes))

    def eat(self):
        """Give each eaten box a mark of its own."""
        for box in self.frame[2]:
            self.cells[box] = self.fresh()

    def make(self, name, box, same):
        """Give the name a new mark; the box has it too only where all that was handed is the same."""
        mark = self.fresh()
        self.named[name] = mark
        self.cells[box] = mark if same else self.fresh()


def walk(program, frame, choice, ways):
    """Tell (row, truth) of all says and ifs along a way, whether each is the same."""
    check_all(program, frame, choice)
    rows = program[2]
    places, groups = choice
    marks = Marks(program[1], frame, places)
    told = []
    at = done = ifs = 0
    while done < WALK_MOST and not at_end(rows, at):
        row = rows[at]
        if row[0] == "if" and ifs == len(ways):
            break
        same = marks.do_row(row, groups[at])
        if row[0] in ("say", "if"):
            told.append((at, same))
        jumps = False
        if row[0] == "if":
            jumps = ways[ifs]
            ifs += 1
        at = next_row(row, at, jumps)
        done += 1
    return told
