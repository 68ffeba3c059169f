"""Programs and choices as texts (point 14)."""

import unittest

from boxwitness.errors import BadChoice, BadProgram, BadText
from boxwitness.mends import made
from boxwitness.notes import read, read_choice, written, written_choice
from samples import ALL_KINDS, FRAME, LOOP, bare, with_group, with_row

END = ("end",)

ALL_KINDS_TEXT = """\
params 2 names 4
put 2 5
copy 3 0
add 2 2 3
take 3 2 1
less 0 3 1
call 1 2
say 1
if 0 9
go 6
end"""

# Two params, three rows, the choice of the document among them.
THREE = (2, 3, (("add", 1, 0, 0), ("say", 1), ("end",)))
THREE_FRAME = (3, 2, (0,))
THREE_CHOICE = (
    (("box", 0), ("slot", 1)),
    (
        ((("load", 0, 1), ("copy", 2, 0)), (2, 0, 0), (("store", 1, 2),)),
        ((), (2,), (("swap", 0, 1), ("swap", 1, 0))),
        ((), (), ()),
    ),
)
THREE_TEXT = "places box 0 slot 1\nload 0 1, copy 2 0 | 2 0 0 | store 1 2\n | 2 | swap 0 1, swap 1 0\n |  | "

NO_NUMERALS = ("", "00", "01", "007", "1000", "0000", "-1", "+1", "1.", "a", "1a", "O", "0x1", "1_0", "1,", "\t1", "1\t")


def with_line(text, at, line):
    """The text with another line."""
    lines = text.split("\n")
    return "\n".join(lines[:at] + [line] + lines[at + 1:])


class Written(unittest.TestCase):
    def test_each_kind_of_row(self):
        self.assertEqual(written(ALL_KINDS), ALL_KINDS_TEXT)

    def test_one_row(self):
        self.assertEqual(written((1, 3, (("add", 2, 0, 1),))), "params 1 names 3\nadd 2 0 1")
        self.assertEqual(written((0, 1, (END,))), "params 0 names 1\nend")

    def test_numbers_at_their_bounds(self):
        self.assertEqual(written((8, 8, (("put", 7, 999), ("put", 0, 0)))), "params 8 names 8\nput 7 999\nput 0 0")

    def test_a_choice(self):
        self.assertEqual(written_choice(THREE, THREE_FRAME, THREE_CHOICE), THREE_TEXT)

    def test_no_params(self):
        program = (0, 1, (("say", 0), END))
        self.assertEqual(written_choice(program, FRAME, bare(program)), "places\n | 0 | \n |  | ")

    def test_eight_params(self):
        program = (8, 8, (END,))
        told = written_choice(program, (3, 8, ()), made(program, (3, 8, ())))
        self.assertEqual(told, "places slot 0 slot 1 slot 2 slot 3 slot 4 slot 5 slot 6 slot 7\n |  | ")


class ReadProgram(unittest.TestCase):
    def refused_text(self, text, row):
        with self.subTest(text=text), self.assertRaises(BadText) as caught:
            read(text)
        self.assertEqual(caught.exception.row, row)

    def refused_program(self, text, row):
        with self.subTest(text=text), self.assertRaises(BadProgram) as caught:
            read(text)
        self.assertEqual(caught.exception.row, row)

    def test_each_kind_of_row(self):
        self.assertEqual(read(ALL_KINDS_TEXT), ALL_KINDS)

    def test_24_rows(self):
        program = (1, 1, (("put", 0, 999),) * 23 + (("go", 23),))
        self.assertEqual(read(written(program)), program)

    def test_changed_words_and_blanks(self):
        for at, line in enumerate(ALL_KINDS_TEXT.split("\n")):
            bad = (
                "", " ", " " + line, line + " ", line.replace(" ", "  ") + (" " if " " not in line else ""),
                line + " 0", line.upper(), "x" + line, line + ",", line + "|", "#" + line, line + "\t",
                line.rpartition(" ")[0],
            )
            for wrong in bad:
                self.refused_text(with_line(ALL_KINDS_TEXT, at, wrong), at)

    def test_numbers_that_are_none(self):
        for numeral in NO_NUMERALS:
            for at, line in enumerate(ALL_KINDS_TEXT.split("\n")):
                words = line.split(" ")
                for which, word in enumerate(words):
                    if word.isdigit():
                        wrong = " ".join(words[:which] + [numeral] + words[which + 1:])
                        self.refused_text(with_line(ALL_KINDS_TEXT, at, wrong), at)

    def test_words_that_are_none(self):
        for line in ("sat 0", "params 1 names 3", "load 0 1", "places", "0", "0 say", "say", "end 0", "put 0", "add 1 2",
                     "add 1 2 3 4", "if 0", "go", "go 1 1", "say 0 0", "copy 1", "call 1 1 1", "less 1 1", "Say 0"):
            self.refused_text("params 1 names 3\nsay 0\n" + line, 2)

    def test_heads_that_are_none(self):
        for head in ("", "say 0", "params 1", "params 1 names", "names 3 params 1", "params 1 names 3 rows 1", "1 3",
                     "params names 1 3", "params 1 params 3", "params 1, names 3"):
            self.refused_text(head + "\nsay 0", 0)
            self.refused_text(head, 0)

    def test_line_ends_too_many(self):
        self.refused_text(ALL_KINDS_TEXT + "\n", 11)
        self.refused_text("\n" + ALL_KINDS_TEXT, 0)
        self.refused_text("params 1 names 3\n\nsay 0", 1)
        self.refused_text("params 1 names 3\n", 1)

    def test_the_first_row_that_is_none(self):
        text = with_line(with_line(ALL_KINDS_TEXT, 7, "say"), 4, "take 3 2 01")
        self.refused_text(text, 4)
        self.refused_text(with_line(text, 0, "params 02 names 4"), 0)

    def test_texts_of_no_program(self):
        self.refused_program("params 1 names 3", -1)
        self.refused_program("params 4 names 3\nsay 0", -1)
        self.refused_program("params 0 names 0\nend", -1)
        self.refused_program("params 0 names 9\nend", -1)
        self.refused_program("params 999 names 3\nend", -1)
        self.refused_program("params 1 names 3\nsay 0\nsay 3", 1)
        self.refused_program("params 1 names 3\nsay 999\nsay 3", 0)
        self.refused_program("params 1 names 3\ngo 1\nend\nif 0 3", 2)
        self.refused_program("params 1 names 3" + "\nend" * 25, 24)
        self.refused_program("params 1 names 3\ngo 24" + "\nend" * 24, 0)

    def test_no_row_is_refused_ahead_of_no_program(self):
        self.refused_text("params 9 names 9\nsay 9\nsay", 2)
        self.refused_text("params 1 names 3" + "\nend" * 25 + "\nend 0", 26)

    def test_what_is_no_text(self):
        for text in (None, 5, True, [], (), ["params 0 names 1", "end"]):
            self.refused_text(text, 0)


class ReadChoice(unittest.TestCase):
    def refused_text(self, text, row):
        with self.subTest(text=text), self.assertRaises(BadText) as caught:
            read_choice(THREE, THREE_FRAME, text)
        self.assertEqual(caught.exception.row, row)

    def refused_choice(self, text, row):
        with self.subTest(text=text), self.assertRaises(BadChoice) as caught:
            read_choice(THREE, THREE_FRAME, text)
        self.assertEqual(caught.exception.row, row)

    def test_the_same(self):
        self.assertEqual(read_choice(THREE, THREE_FRAME, THREE_TEXT), THREE_CHOICE)

    def test_no_params(self):
        program = (0, 1, (("say", 0), END))
        self.assertEqual(read_choice(program, FRAME, "places\n | 0 | \n |  | "), bare(program))

    def test_the_longest(self):
        move = ("store", 7, 5)
        rows = (("add", 0, 0, 0),) * 24
        choice = ((("slot", 7),), (((move,) * 6, (5, 5, 5), (move,) * 6),) * 24)
        text = written_choice((1, 1, rows), (6, 8, ()), choice)
        self.assertGreater(len(text), 3000)
        self.assertEqual(read_choice((1, 1, rows), (6, 8, ()), text), choice)

    def test_places_that_are_none(self):
        for line in ("", " places", "places ", "places  box 0 slot 1", "places box 0 slot 1 ", "places box", "places box 0 1",
                     "places 0", "places box 0 slot", "places bix 0 slot 1", "place box 0 slot 1", "places box 0, slot 1",
                     "Places box 0 slot 1", "box 0 slot 1", "places slot box 0 1", "places box 00 slot 1", "places 0 box 1 slot",
                     "places box 0 slot 1000", "places box -1 slot 1", "places box 0 slot 1 |", "places box a slot 1"):
            self.refused_text(with_line(THREE_TEXT, 0, line), 0)

    def test_groups_that_are_none(self):
        for line in ("", " ", "2", " | 2", "2 | ", " | 2 |", "| 2 | ", " |2| ", " | 2 |  | ", "|2|", " | |  2 | ", "  | 2 | ",
                     " |  2 | ", " | 2  | ", " | 2 |  ", " | 02 | ", " | a | ", " | 2, 0 | ", " | 1000 | ", " | -1 | ",
                     "copy 0 1, | 2 | ", ", copy 0 1 | 2 | ", "copy 0 1,copy 0 1 | 2 | ", "copy 0 1,  copy 0 1 | 2 | ",
                     "copy 0 1 copy 0 1 | 2 | ", "copy 0 1 , copy 0 1 | 2 | ", "copy 0 | 2 | ", "copy | 2 | ",
                     "copy 0 1 2 | 2 | ", "put 0 1 | 2 | ", "say 0 | 2 | ", "0 1 | 2 | ", "copy 0 01 | 2 | ",
                     "copy  0 1 | 2 | ", "Copy 0 1 | 2 | ", " | 2 | copy 0", " | 2 | move 0 1", " | 2 | copy 0 1 ",
                     " | 2 | copy 0 1,", " | box 2 | ", "places box 0 slot 1"):
            for at in (1, 2, 3):
                self.refused_text(with_line(THREE_TEXT, at, line), at)

    def test_numbers_that_are_none(self):
        for numeral in NO_NUMERALS:
            for word in ("copy", "swap", "store", "load"):
                self.refused_text(with_line(THREE_TEXT, 1, f"{word} {numeral} 0 | 2 0 0 | "), 1)
                self.refused_text(with_line(THREE_TEXT, 1, f" | 2 0 0 | {word} 0 {numeral}"), 1)
            # Nothing at all would be no box, which is a group of another row.
            if numeral:
                self.refused_text(with_line(THREE_TEXT, 2, f" | {numeral} | "), 2)
            self.refused_text(with_line(THREE_TEXT, 0, f"places box {numeral} slot 1"), 0)

    def test_line_ends_too_many(self):
        self.refused_text(THREE_TEXT + "\n", 4)
        self.refused_text("\n" + THREE_TEXT, 0)
        self.refused_text("", 0)

    def test_the_first_row_that_is_none(self):
        text = with_line(with_line(THREE_TEXT, 3, ""), 2, " | 02 | ")
        self.refused_text(text, 2)
        self.refused_text(with_line(text, 0, "places box"), 0)

    def test_texts_of_no_choice(self):
        for line in ("places", "places box 0", "places box 0 slot 1 box 1", "places box 0 box 0", "places box 3 slot 1",
                     "places box 0 slot 2", "places slot 999 box 0"):
            self.refused_choice(with_line(THREE_TEXT, 0, line), -1)
            self.refused_choice(with_line(with_line(THREE_TEXT, 0, line), 1, " |  | "), -1)
        for at, line in ((1, " |  | "), (1, " | 0 0 | "), (1, " | 0 0 0 0 | "), (1, " | 0 0 3 | "), (2, " | 999 | "),
                         (2, "copy 3 0 | 2 | "), (2, "load 0 2 | 2 | "), (2, " | 2 | store 2 0"), (3, " | 0 | "),
                         (3, " |  | copy 0 1"), (2, ", ".join(["copy 0 1"] * 7) + " | 2 | ")):
            self.refused_choice(with_line(THREE_TEXT, at, line), at - 1)

    def test_groups_too_many_and_too_few(self):
        self.refused_choice(THREE_TEXT + "\n |  | ", 3)
        self.refused_choice(THREE_TEXT + "\n |  | \n |  | ", 3)
        for many in range(3):
            self.refused_choice("\n".join(THREE_TEXT.split("\n")[:many + 1]), many)

    def test_the_first_group_that_can_not_be(self):
        self.refused_choice(with_line(with_line(THREE_TEXT, 3, " | 0 | "), 2, " |  | "), 1)
        self.refused_choice(with_line(THREE_TEXT, 2, " |  | ") + "\n |  | ", 1)

    def test_no_row_is_refused_ahead_of_no_choice(self):
        self.refused_text(with_line(with_line(THREE_TEXT, 0, "places"), 3, ""), 3)
        self.refused_text(THREE_TEXT + "\n |  | \n", 5)

    def test_what_is_no_text(self):
        for text in (None, 5, True, [], (), ["places"]):
            self.refused_text(text, 0)


class BackAndForth(unittest.TestCase):
    def test_programs(self):
        for program in (LOOP, ALL_KINDS, THREE):
            self.assertEqual(read(written(program)), program)
            for at in range(len(program[2])):
                for row in (("put", 0, 0), ("put", 2, 10), ("put", 1, 100), ("put", 0, 999), ("if", 2, 2), ("go", 0), END):
                    other = with_row(program, at, row)
                    self.assertEqual(read(written(other)), other)

    def test_choices(self):
        moves = (("copy", 3, 0), ("swap", 0, 3), ("store", 1, 3), ("load", 3, 1))
        for program in (LOOP, ALL_KINDS):
            for at, row in enumerate(program[2]):
                boxes = bare(program)[1][at][1]
                for ahead in ((), moves[:1], moves[1:3], moves):
                    behind = () if row[0] in ("go", "if", "end") else moves[len(ahead):]
                    choice = with_group(bare(program), at, (ahead, boxes, behind))
                    text = written_choice(program, FRAME, choice)
                    self.assertEqual(read_choice(program, FRAME, text), choice)


if __name__ == "__main__":
    unittest.main()
