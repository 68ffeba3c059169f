"""Many small programs and choices: what the functions tell must fit together, and fit a slow second telling."""

import random
import unittest

from boxwitness.marks import walk
from boxwitness.papers import paper, shows
from boxwitness.programs import names_of
from boxwitness.runs import run, run_boxes

MAKERS = ("put", "copy", "add", "take", "less", "call")


def some_row(chance, names, many):
    name = lambda: chance.randrange(names)
    word = chance.choice(MAKERS + ("say", "say", "if", "if", "go", "end"))
    if word == "put":
        return word, name(), chance.randrange(3)
    if word in ("copy", "call"):
        return word, name(), name()
    if word in ("add", "take", "less"):
        return word, name(), name(), name()
    if word == "say":
        return word, name()
    if word == "if":
        return word, name(), chance.randrange(many)
    return (word, chance.randrange(many)) if word == "go" else (word,)


def some_program(chance):
    names = chance.randint(1, 3)
    many = chance.randint(1, 7)
    return chance.randint(0, names), names, tuple(some_row(chance, names, many) for at in range(many))


def some_moves(chance, boxes, slots, most):
    moves = []
    for at in range(chance.randint(0, most)):
        word = chance.choice(("copy", "swap", "store", "load") if slots else ("copy", "swap"))
        first = slots if word == "store" else boxes
        second = slots if word == "load" else boxes
        moves.append((word, chance.randrange(first), chance.randrange(second)))
    return tuple(moves)


def some_choice(chance, program, frame):
    """A choice that is bent here and there only, so that many are let by."""
    boxes, slots, eaten = frame
    cells = [("box", box) for box in range(boxes)] + [("slot", slot) for slot in range(slots)]
    places = tuple(cells[:program[0]] if chance.random() < 0.8 else chance.sample(cells, program[0]))
    groups = []
    for row in program[2]:
        named = tuple(
            min(name, boxes - 1) if chance.random() < 0.9 else chance.randrange(boxes) for name in names_of(row)
        )
        most = 2 if chance.random() < 0.3 else 0
        behind = () if row[0] in ("go", "if", "end") else some_moves(chance, boxes, slots, most)
        groups.append((some_moves(chance, boxes, slots, most), named, behind))
    return places, tuple(groups)


def some_case(chance):
    program = some_program(chance)
    boxes = chance.randint(3, 4)
    eaten = tuple(box for box in range(boxes) if chance.random() < 0.3)
    frame = (boxes, chance.choice((0, 1, 2, 6)), eaten)
    return program, frame, some_choice(chance, program, frame)


class SlowMarks:
    """Point 6 told once more: marks are numbers by key, ("name", 0), ("box", 0) or ("slot", 0)."""

    def __init__(self, marks):
        self.marks = dict(marks)

    @staticmethod
    def first(program, frame, places):
        keys = [("name", n) for n in range(program[1])]
        keys += [("box", n) for n in range(frame[0])] + [("slot", n) for n in range(frame[1])]
        slow = SlowMarks({key: number for number, key in enumerate(keys)})
        for name, place in enumerate(places):
            slow.marks[place] = slow.marks["name", name]
        return slow

    def new(self):
        return max(self.marks.values()) + 1

    def move(self, moves):
        for word, one, other in moves:
            left = ("slot", one) if word == "store" else ("box", one)
            right = ("slot", other) if word == "load" else ("box", other)
            was = self.marks[left]
            self.marks[left] = self.marks[right]
            if word == "swap":
                self.marks[right] = was

    def has(self, name, box):
        return self.marks["name", name] == self.marks["box", box]

    def row(self, row, frame, group):
        """Tell whether a say or an if is the same, None of other rows."""
        self.move(group[0])
        boxes = group[1]
        same = None
        if row[0] in ("say", "if"):
            same = self.has(row[1], boxes[0])
        elif row[0] == "copy":
            self.marks["name", row[1]] = self.marks["name", row[2]]
            self.marks["box", boxes[0]] = self.marks["box", boxes[1]]
        elif row[0] in MAKERS:
            right = row[0] == "put" or all(self.has(n, b) for n, b in zip(row[2:], boxes[1:]))
            if row[0] == "call":
                for box in frame[2]:
                    self.marks["box", box] = self.new()
            # Two marks that nothing has yet, even when the second one is not used.
            mark, other = self.new(), self.new() + 1
            self.marks["name", row[1]] = mark
            self.marks["box", boxes[0]] = mark if right else other
        self.move(group[2])
        return same

    def plain(self):
        """The marks by the order in which they first come, so that equal states are equal."""
        order = {}
        return tuple((key, order.setdefault(mark, len(order))) for key, mark in sorted(self.marks.items()))

    def lies(self, program, frame):
        keys = [("box", n) for n in range(frame[0])] + [("slot", n) for n in range(frame[1])]
        return tuple(
            tuple(n for n in range(program[1]) if self.marks["name", n] == self.marks[key]) for key in keys
        )


def after(rows, at):
    if rows[at][0] == "end":
        return []
    nexts = {"go": [rows[at][-1]], "if": [at + 1, rows[at][-1]]}.get(rows[at][0], [at + 1])
    return [number for number in nexts if number < len(rows)]


def slow_paper(program, frame, choice):
    """Tell (paper, let by) from all states of marks that there are on any way."""
    rows = program[2]
    parts = [None] * len(rows)
    let_by = True
    waiting = [(0, SlowMarks.first(program, frame, choice[0]).plain())]
    seen = set(waiting)
    while waiting:
        at, plain = waiting.pop()
        slow = SlowMarks(plain)
        lies = slow.lies(program, frame)
        held = lies if parts[at] is None else parts[at]
        parts[at] = tuple(tuple(n for n in one if n in two) for one, two in zip(held, lies))
        if slow.row(rows[at], frame, choice[1][at]) is False:
            let_by = False
        for number in after(rows, at):
            state = (number, slow.plain())
            if state not in seen:
                seen.add(state)
                waiting.append(state)
    return parts, let_by


def slow_walk(program, frame, choice, ways):
    rows = program[2]
    slow = SlowMarks.first(program, frame, choice[0])
    told = []
    ways = list(ways)
    at = 0
    for turn in range(300):
        if at >= len(rows) or rows[at][0] == "end" or (rows[at][0] == "if" and not ways):
            return told
        same = slow.row(rows[at], frame, choice[1][at])
        if same is not None:
            told.append((at, same))
        if rows[at][0] == "go" or (rows[at][0] == "if" and ways.pop(0)):
            at = rows[at][-1]
        else:
            at += 1
    return told


class Together(unittest.TestCase):
    def test_walk(self):
        chance = random.Random(1)
        for turn in range(1500):
            program, frame, choice = some_case(chance)
            ways = [chance.random() < 0.5 for at in range(chance.randint(0, 12))]
            with self.subTest(case=(program, frame, choice, ways)):
                self.assertEqual(walk(program, frame, choice, ways), slow_walk(program, frame, choice, ways))

    def test_paper_and_shows(self):
        chance = random.Random(2)
        told_so = {True: 0, False: 0}
        for turn in range(1500):
            case = some_case(chance)
            with self.subTest(case=case):
                parts, let_by = slow_paper(*case)
                self.assertEqual(paper(*case), parts)
                self.assertIs(shows(*case, parts), let_by)
                told_so[let_by] += 1
        self.assertGreater(min(told_so.values()), 100)

    def test_no_shown_paper_tells_more(self):
        chance = random.Random(3)
        shown = 0
        for turn in range(3000):
            case = some_case(chance)
            own = paper(*case)
            told = [self.bent(chance, case[0], part) for part in own]
            with self.subTest(case=case, told=told):
                if shows(*case, told):
                    shown += 1
                    self.assertTrue(slow_paper(*case)[1])
                    for part, most in zip(told, own):
                        if most is not None:
                            self.assertTrue(all(set(one) <= set(two) for one, two in zip(part, most)))
        self.assertGreater(shown, 100)

    def bent(self, chance, program, part):
        """A part that now and then tells something else."""
        if part is None or chance.random() < 0.7:
            return part
        held = list(part)
        at = chance.randrange(len(held))
        name = chance.randrange(program[1])
        held[at] = tuple(sorted(set(held[at]) ^ {name}))
        return tuple(held)

    def test_run_boxes_tells_what_run_tells_where_a_choice_is_let_by(self):
        chance = random.Random(4)
        let_by = 0
        for turn in range(1500):
            program, frame, choice = some_case(chance)
            if not shows(program, frame, choice, paper(program, frame, choice)):
                continue
            let_by += 1
            for again in range(3):
                given = tuple(chance.choice((0, 1, 2, 999)) for name in range(program[0]))
                junk = [chance.randrange(1000) for number in range(chance.randint(0, 9))]
                fuel = chance.randint(0, 60)
                with self.subTest(case=(program, frame, choice, given, fuel, junk)):
                    told = run_boxes(program, frame, choice, given, fuel, junk)
                    self.assertEqual(told, run(program, given, fuel))
        self.assertGreater(let_by, 100)


if __name__ == "__main__":
    unittest.main()
