"""Many small programs and choices: what the functions tell must fit together, and fit a slow second telling."""

import itertools
import random
import unittest

from boxwitness.checking import checked
from boxwitness.keeping import Witness
from boxwitness.marks import walk
from boxwitness.mends import least, made, renumbered
from boxwitness.notes import read, read_choice, written, written_choice
from boxwitness.papers import paper, shows
from boxwitness.programs import names_of
from boxwitness.runs import run, run_boxes
from samples import with_group

MAKERS = ("put", "copy", "add", "take", "less", "call")


def some_row(chance, names, many):
    name = lambda: chance.randrange(names)
    word = chance.choice(MAKERS + ("say", "say", "if", "if", "go", "end"))
    if word == "put":
        return word, name(), chance.randrange(3)
    if word in ("copy", "call"):
        return word, name(), name()
    if word in ("add", "take", "less"):
        return word, name(), name(), name()
    if word == "say":
        return word, name()
    if word == "if":
        return word, name(), chance.randrange(many)
    return (word, chance.randrange(many)) if word == "go" else (word,)


def some_program(chance):
    names = chance.randint(1, 3)
    many = chance.randint(1, 7)
    return chance.randint(0, names), names, tuple(some_row(chance, names, many) for at in range(many))


def some_moves(chance, boxes, slots, most):
    moves = []
    for at in range(chance.randint(0, most)):
        word = chance.choice(("copy", "swap", "store", "load") if slots else ("copy", "swap"))
        first = slots if word == "store" else boxes
        second = slots if word == "load" else boxes
        moves.append((word, chance.randrange(first), chance.randrange(second)))
    return tuple(moves)


def some_choice(chance, program, frame):
    """A choice that is bent here and there only, so that many are let by."""
    boxes, slots, eaten = frame
    cells = [("box", box) for box in range(boxes)] + [("slot", slot) for slot in range(slots)]
    places = tuple(cells[:program[0]] if chance.random() < 0.8 else chance.sample(cells, program[0]))
    groups = []
    for row in program[2]:
        named = tuple(
            min(name, boxes - 1) if chance.random() < 0.9 else chance.randrange(boxes) for name in names_of(row)
        )
        most = 2 if chance.random() < 0.3 else 0
        behind = () if row[0] in ("go", "if", "end") else some_moves(chance, boxes, slots, most)
        groups.append((some_moves(chance, boxes, slots, most), named, behind))
    return places, tuple(groups)


def some_case(chance):
    program = some_program(chance)
    boxes = chance.randint(3, 4)
    eaten = tuple(box for box in range(boxes) if chance.random() < 0.3)
    frame = (boxes, chance.choice((0, 1, 2, 6)), eaten)
    return program, frame, some_choice(chance, program, frame)


class SlowMarks:
    """Point 6 told once more: marks are numbers by key, ("name", 0), ("box", 0) or ("slot", 0)."""

    def __init__(self, marks):
        self.marks = dict(marks)

    @staticmethod
    def first(program, frame, places):
        keys = [("name", n) for n in range(program[1])]
        keys += [("box", n) for n in range(frame[0])] + [("slot", n) for n in range(frame[1])]
        slow = SlowMarks({key: number for number, key in enumerate(keys)})
        for name, place in enumerate(places):
            slow.marks[place] = slow.marks["name", name]
        return slow

    def new(self):
        return max(self.marks.values()) + 1

    def move(self, moves):
        for word, one, other in moves:
            left = ("slot", one) if word == "store" else ("box", one)
            right = ("slot", other) if word == "load" else ("box", other)
            was = self.marks[left]
            self.marks[left] = self.marks[right]
            if word == "swap":
                self.marks[right] = was

    def has(self, name, box):
        return self.marks["name", name] == self.marks["box", box]

    def row(self, row, frame, group):
        """Tell whether a say or an if is the same, None of other rows."""
        self.move(group[0])
        boxes = group[1]
        same = None
        if row[0] in ("say", "if"):
            same = self.has(row[1], boxes[0])
        elif row[0] == "copy":
            self.marks["name", row[1]] = self.marks["name", row[2]]
            self.marks["box", boxes[0]] = self.marks["box", boxes[1]]
        elif row[0] in MAKERS:
            right = row[0] == "put" or all(self.has(n, b) for n, b in zip(row[2:], boxes[1:]))
            if row[0] == "call":
                for box in frame[2]:
                    self.marks["box", box] = self.new()
            # Two marks that nothing has yet, even when the second one is not used.
            mark, other = self.new(), self.new() + 1
            self.marks["name", row[1]] = mark
            self.marks["box", boxes[0]] = mark if right else other
        self.move(group[2])
        return same

    def plain(self):
        """The marks by the order in which they first come, so that equal states are equal."""
        order = {}
        return tuple((key, order.setdefault(mark, len(order))) for key, mark in sorted(self.marks.items()))

    def lies(self, program, frame):
        keys = [("box", n) for n in range(frame[0])] + [("slot", n) for n in range(frame[1])]
        return tuple(
            tuple(n for n in range(program[1]) if self.marks["name", n] == self.marks[key]) for key in keys
        )


def after(rows, at):
    if rows[at][0] == "end":
        return []
    nexts = {"go": [rows[at][-1]], "if": [at + 1, rows[at][-1]]}.get(rows[at][0], [at + 1])
    return [number for number in nexts if number < len(rows)]


def slow_paper(program, frame, choice):
    """Tell (paper, let by) from all states of marks that there are on any way."""
    rows = program[2]
    parts = [None] * len(rows)
    let_by = True
    waiting = [(0, SlowMarks.first(program, frame, choice[0]).plain())]
    seen = set(waiting)
    while waiting:
        at, plain = waiting.pop()
        slow = SlowMarks(plain)
        lies = slow.lies(program, frame)
        held = lies if parts[at] is None else parts[at]
        parts[at] = tuple(tuple(n for n in one if n in two) for one, two in zip(held, lies))
        if slow.row(rows[at], frame, choice[1][at]) is False:
            let_by = False
        for number in after(rows, at):
            state = (number, slow.plain())
            if state not in seen:
                seen.add(state)
                waiting.append(state)
    return parts, let_by


def slow_walk(program, frame, choice, ways):
    rows = program[2]
    slow = SlowMarks.first(program, frame, choice[0])
    told = []
    ways = list(ways)
    at = 0
    for turn in range(300):
        if at >= len(rows) or rows[at][0] == "end" or (rows[at][0] == "if" and not ways):
            return told
        same = slow.row(rows[at], frame, choice[1][at])
        if same is not None:
            told.append((at, same))
        if rows[at][0] == "go" or (rows[at][0] == "if" and ways.pop(0)):
            at = rows[at][-1]
        else:
            at += 1
    return told


def slow_checked(program, frame, choice):
    """Point 7 told once more, over all states of marks, one row further at a time."""
    rows = program[2]
    front = {(0, SlowMarks.first(program, frame, choice[0]).plain()): []}
    seen = set()
    while front:
        wrong = []
        further = {}
        for (at, plain), ways in front.items():
            slow = SlowMarks(plain)
            if slow.row(rows[at], frame, choice[1][at]) is False:
                wrong.append((ways, at))
            truths = [[False], [True]] if rows[at][0] == "if" else [[]]
            numbers = {"go": [rows[at][-1]], "if": [at + 1, rows[at][-1]], "end": [len(rows)]}.get(rows[at][0], [at + 1])
            for more, number in zip(truths, numbers):
                state = (number, slow.plain())
                if number < len(rows) and state not in seen and state not in front:
                    further[state] = min(ways + more, further.get(state, ways + more))
        if wrong:
            return min(wrong)
        seen.update(front)
        front = further
    return None


def slow_least(program, frame, choice, most):
    """Point 11 told once more, by trying all lists that are few enough."""
    mends = [
        (row, which, box) for row, group in enumerate(choice[1])
        for which in range(len(group[1])) for box in range(frame[0])
    ]
    for many in range(most + 1):
        mending = []
        for told in itertools.combinations(mends, many):
            groups = [[ahead, list(boxes), behind] for ahead, boxes, behind in choice[1]]
            for row, which, box in told:
                groups[row][1][which] = box
            other = (choice[0], tuple((ahead, tuple(boxes), behind) for ahead, boxes, behind in groups))
            differing = sum(
                one != two for old, new in zip(choice[1], other[1]) for one, two in zip(old[1], new[1])
            )
            if differing == many and slow_paper(program, frame, other)[1]:
                mending.append(sorted(told))
        if mending:
            return min(mending)
    return None


class Together(unittest.TestCase):
    def test_walk(self):
        chance = random.Random(1)
        for turn in range(1500):
            program, frame, choice = some_case(chance)
            ways = [chance.random() < 0.5 for at in range(chance.randint(0, 12))]
            with self.subTest(case=(program, frame, choice, ways)):
                self.assertEqual(walk(program, frame, choice, ways), slow_walk(program, frame, choice, ways))

    def test_paper_and_shows(self):
        chance = random.Random(2)
        told_so = {True: 0, False: 0}
        for turn in range(1500):
            case = some_case(chance)
            with self.subTest(case=case):
                parts, let_by = slow_paper(*case)
                self.assertEqual(paper(*case), parts)
                self.assertIs(shows(*case, parts), let_by)
                told_so[let_by] += 1
        self.assertGreater(min(told_so.values()), 100)

    def test_no_shown_paper_tells_more(self):
        chance = random.Random(3)
        shown = 0
        for turn in range(3000):
            case = some_case(chance)
            own = paper(*case)
            told = [self.bent(chance, case[0], part) for part in own]
            with self.subTest(case=case, told=told):
                if shows(*case, told):
                    shown += 1
                    self.assertTrue(slow_paper(*case)[1])
                    for part, most in zip(told, own):
                        if most is not None:
                            self.assertTrue(all(set(one) <= set(two) for one, two in zip(part, most)))
        self.assertGreater(shown, 100)

    def test_checked(self):
        chance = random.Random(5)
        told_so = {"say": 0, "if": 0, None: 0}
        longest = 0
        for turn in range(3000):
            case = some_case(chance)
            with self.subTest(case=case):
                told = checked(*case)
                self.assertEqual(told, slow_checked(*case))
                told_so[told and case[0][2][told[1]][0]] += 1
                longest = max(longest, len(told[0]) if told else 0)
        self.assertGreater(min(told_so.values()), 100)
        self.assertGreater(longest, 2)

    def test_paper_is_shown_just_where_checked_lets_by(self):
        chance = random.Random(6)
        for turn in range(1500):
            case = some_case(chance)
            with self.subTest(case=case):
                self.assertIs(shows(*case, paper(*case)), checked(*case) is None)

    def test_walk_along_the_way_that_checked_tells(self):
        chance = random.Random(7)
        for turn in range(3000):
            program, frame, choice = some_case(chance)
            told = checked(program, frame, choice)
            if told is None:
                continue
            ways, row = told
            with self.subTest(case=(program, frame, choice)):
                if program[2][row][0] == "if":
                    # Along the way all are the same up to the if, which walk tells once there is a truth for it.
                    self.assertTrue(all(same for at, same in walk(program, frame, choice, ways)))
                    ways = ways + [False]
                walked = walk(program, frame, choice, ways)
                first = [same for at, same in walked].index(False)
                self.assertEqual(walked[first], (row, False))

    def test_least(self):
        chance = random.Random(8)
        told_so = {None: 0, 0: 0, 1: 0, 2: 0}
        for turn in range(700):
            program, frame, choice = some_case(chance)
            if len(program[2]) > 6 or not any(group[1] for group in choice[1]):
                continue
            if checked(program, frame, choice) is None:
                choice = self.bent_boxes(chance, frame, choice)
            for most in (0, 1, 2):
                with self.subTest(case=(program, frame, choice), most=most):
                    told = least(program, frame, choice, most)
                    self.assertEqual(told, slow_least(program, frame, choice, most))
            told_so[None if told is None else len(told)] += 1
        self.assertGreater(min(told_so.values()), 5)

    def bent_boxes(self, chance, frame, choice):
        """The choice with none to three boxes told anyhow."""
        for again in range(chance.randint(0, 3)):
            number = chance.choice([at for at, group in enumerate(choice[1]) if group[1]])
            ahead, boxes, behind = choice[1][number]
            which = chance.randrange(len(boxes))
            boxes = boxes[:which] + (chance.randrange(frame[0]),) + boxes[which + 1:]
            choice = with_group(choice, number, (ahead, boxes, behind))
        return choice

    def test_made_is_let_by_where_all_names_are_params(self):
        chance = random.Random(9)
        for turn in range(500):
            params, names, rows = some_program(chance)
            program = (names, names, rows)
            boxes = chance.randint(3, 6)
            frame = (boxes, names, tuple(box for box in range(boxes) if chance.random() < 0.5))
            with self.subTest(program=program, frame=frame):
                self.assertIsNone(checked(program, frame, made(program, frame)))

    def test_renumbered(self):
        chance = random.Random(10)
        for turn in range(500):
            program, frame, choice = some_case(chance)
            order = tuple(chance.sample(range(frame[0]), frame[0]))
            back = tuple(order.index(box) for box in range(frame[0]))
            with self.subTest(case=(program, frame, choice), order=order):
                told = renumbered(program, frame, choice, order)
                self.assertEqual(checked(program, *told), checked(program, frame, choice))
                self.assertEqual(renumbered(program, *told, back), (frame, choice))

    def test_what_is_written_is_read_to_the_same(self):
        chance = random.Random(11)
        for turn in range(500):
            program, frame, choice = some_case(chance)
            with self.subTest(case=(program, frame, choice)):
                self.assertEqual(read(written(program)), program)
                self.assertEqual(read_choice(program, frame, written_choice(program, frame, choice)), choice)

    def test_a_witness_after_changes(self):
        chance = random.Random(12)
        for turn in range(200):
            program, frame, choice = some_case(chance)
            witness = Witness(program, frame, choice)
            for again in range(5):
                number = chance.randrange(len(program[2]))
                group = some_choice(chance, program, frame)[1][number]
                witness.change(number, group)
                choice = with_group(choice, number, group)
                with self.subTest(case=(program, frame, choice)):
                    self.assertEqual(witness.choice(), choice)
                    self.assertEqual(witness.paper(), paper(program, frame, choice))
                    self.assertEqual(witness.verdict(), checked(program, frame, choice))

    def bent(self, chance, program, part):
        """A part that now and then tells something else."""
        if part is None or chance.random() < 0.7:
            return part
        held = list(part)
        at = chance.randrange(len(held))
        name = chance.randrange(program[1])
        held[at] = tuple(sorted(set(held[at]) ^ {name}))
        return tuple(held)

    def test_run_boxes_tells_what_run_tells_where_a_choice_is_let_by(self):
        chance = random.Random(4)
        let_by = 0
        for turn in range(1500):
            program, frame, choice = some_case(chance)
            if checked(program, frame, choice) is not None:
                continue
            let_by += 1
            for again in range(3):
                given = tuple(chance.choice((0, 1, 2, 999)) for name in range(program[0]))
                junk = [chance.randrange(1000) for number in range(chance.randint(0, 9))]
                fuel = chance.randint(0, 60)
                with self.subTest(case=(program, frame, choice, given, fuel, junk)):
                    told = run_boxes(program, frame, choice, given, fuel, junk)
                    self.assertEqual(told, run(program, given, fuel))
        self.assertGreater(let_by, 100)


if __name__ == "__main__":
    unittest.main()
