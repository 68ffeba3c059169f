"""Choices made, mended and renumbered (points 10, 11 and 12)."""

import unittest

from boxwitness.checking import checked
from boxwitness.errors import BadCount, NoRoom, TooMany
from boxwitness.mends import least, made, renumbered
from boxwitness.papers import paper
from boxwitness.runs import run, run_boxes
from samples import ALL_KINDS, FRAME, LOOP, bare, with_group

SAY_0 = ("say", 0)
END = ("end",)
NO_COUNTS = (-1, 3, True, False, None, "1", (1,), [1], 10 ** 19)


class Made(unittest.TestCase):
    def test_each_kind_of_row(self):
        self.assertEqual(made(ALL_KINDS, (3, 4, ())), (
            (("slot", 0), ("slot", 1)),
            (
                ((), (2,), (("store", 2, 2),)),
                ((("load", 0, 0),), (2, 0), (("store", 3, 2),)),
                ((("load", 0, 2), ("load", 1, 3)), (2, 0, 1), (("store", 2, 2),)),
                ((("load", 0, 2), ("load", 1, 1)), (2, 0, 1), (("store", 3, 2),)),
                ((("load", 0, 3), ("load", 1, 1)), (2, 0, 1), (("store", 0, 2),)),
                ((("load", 0, 2),), (2, 0), (("store", 1, 2),)),
                ((("load", 0, 1),), (0,), ()),
                ((("load", 0, 0),), (0,), ()),
                ((), (), ()),
                ((), (), ()),
            ),
        ))

    def test_a_name_that_is_handed_twice_is_loaded_twice(self):
        told = made((1, 1, (("add", 0, 0, 0),)), (3, 1, ()))
        self.assertEqual(told[1], (((("load", 0, 0), ("load", 1, 0)), (2, 0, 1), (("store", 0, 2),)),))

    def test_no_params(self):
        self.assertEqual(made((0, 1, (END,)), (3, 1, ())), ((), (((), (), ()),)))

    def test_more_room_than_needed_changes_nothing(self):
        self.assertEqual(made(LOOP, (6, 8, (0, 1, 2, 3, 4, 5))), made(LOOP, (3, 3, ())))

    def test_let_by_where_all_names_are_params(self):
        for program in (LOOP, ALL_KINDS):
            whole = (program[1],) + program[1:]
            for frame in ((3, 4, (0, 1, 2)), (6, 8, (2, 5))):
                self.assertIsNone(checked(whole, frame, made(whole, frame)))

    def test_the_largest_program(self):
        rows = tuple(("add", at % 8, (at + 1) % 8, (at + 3) % 8) for at in range(22)) + (("say", 7), ("if", 3, 0))
        program = (8, 8, rows)
        choice = made(program, (3, 8, (0, 1, 2)))
        self.assertIsNone(checked(program, (3, 8, (0, 1, 2)), choice))
        given = (1, 2, 3, 4, 5, 6, 7, 8)
        told = run(program, given, 500)
        self.assertEqual(run_boxes(program, (3, 8, (0, 1, 2)), choice, given, 500, [9]), told)

    def test_a_name_that_is_no_param_lies_in_its_slot_only_once_it_is_made(self):
        program = (0, 1, (SAY_0,))
        self.assertEqual(checked(program, (3, 1, ()), made(program, (3, 1, ()))), ([], 0))
        program = (0, 1, (("put", 0, 3), SAY_0))
        self.assertIsNone(checked(program, (3, 1, ()), made(program, (3, 1, ()))))

    def test_no_room(self):
        program = (1, 4, (SAY_0,))
        made(program, (3, 4, ()))
        for frame in ((2, 4, ()), (1, 8, ()), (3, 3, ()), (6, 0, ()), (2, 3, (0, 1))):
            with self.subTest(frame=frame), self.assertRaises(NoRoom):
                made(program, frame)
        made((8, 8, (SAY_0,)), (3, 8, ()))
        with self.assertRaises(NoRoom):
            made((0, 8, (SAY_0,)), (6, 7, ()))


class Least(unittest.TestCase):
    def least(self, rows, groups, most, names=2, frame=(3, 0, ()), places=(("box", 0),)):
        return least((len(places), names, rows), frame, (places, groups), most)

    def test_a_choice_that_is_let_by(self):
        for most in (0, 1, 2):
            self.assertEqual(self.least((SAY_0,), (((), (0,), ()),), most), [])

    def test_one_box(self):
        groups = (((), (1,), ()),)
        self.assertIsNone(self.least((SAY_0,), groups, 0))
        self.assertEqual(self.least((SAY_0,), groups, 1), [(0, 0, 0)])
        self.assertEqual(self.least((SAY_0,), groups, 2), [(0, 0, 0)])

    def test_two_boxes(self):
        groups = (((), (1,), ()), ((), (0,), ()), ((), (2,), ()))
        rows = (SAY_0,) * 3
        self.assertIsNone(self.least(rows, groups, 0))
        self.assertIsNone(self.least(rows, groups, 1))
        self.assertEqual(self.least(rows, groups, 2), [(0, 0, 0), (2, 0, 0)])

    def test_three_boxes_are_too_many(self):
        groups = (((), (1,), ()),) * 3
        self.assertIsNone(self.least((SAY_0,) * 3, groups, 2))

    def test_two_boxes_of_one_row(self):
        rows = (("add", 2, 0, 1), ("say", 2))
        places = (("box", 0), ("box", 1))
        groups = (((), (2, 1, 0), ()), ((), (2,), ()))
        self.assertIsNone(self.least(rows, groups, 1, 3, (3, 0, ()), places))
        self.assertEqual(self.least(rows, groups, 2, 3, (3, 0, ()), places), [(0, 1, 0), (0, 2, 1)])

    def test_the_least_row_of_several(self):
        # What is put may lie in the box that is said, or the box where it is put may be said.
        rows = (("put", 0, 3), SAY_0)
        self.assertEqual(self.least(rows, (((), (1,), ()), ((), (2,), ())), 2), [(0, 0, 2)])

    def test_the_least_place_of_a_row_and_the_least_box(self):
        # Name 0 lies in boxes 1 and 2 both.
        groups = (((("copy", 2, 1),), (0,), ()),)
        self.assertEqual(self.least((SAY_0,), groups, 1, places=(("box", 1),)), [(0, 0, 1)])
        # A copy of a wrong box: what it makes is said out of box 1; it may be handed box 0, or the say may read it.
        rows = (("copy", 1, 0), ("say", 1))
        self.assertEqual(self.least(rows, (((), (1, 2), ()), ((), (1,), ())), 1), [(0, 1, 0)])

    def test_one_box_comes_ahead_of_two(self):
        # By two boxes of row 0 it would do too, and their list would be less.
        rows = (("copy", 1, 0), ("say", 1))
        groups = (((), (2, 1), ()), ((), (1,), ()))
        self.assertEqual(self.least(rows, groups, 2), [(1, 0, 0)])

    def test_the_least_of_two(self):
        # Names 0 and 1 are said out of box 2; name 1 could be put in any box, but the say of it comes later.
        rows = (("put", 1, 5), SAY_0, ("say", 1))
        groups = (((), (0,), ()), ((), (2,), ()), ((), (2,), ()))
        self.assertEqual(self.least(rows, groups, 2), [(0, 0, 2), (1, 0, 0)])

    def test_what_no_boxes_mend(self):
        # Name 1 lies nowhere.
        self.assertIsNone(self.least((("say", 1),), (((), (0,), ()),), 2))

    def test_a_loop(self):
        rows = (("put", 1, 1), ("take", 0, 0, 1), SAY_0, ("if", 0, 1))
        right = (((), (1,), ()), ((), (0, 0, 1), ()), ((), (0,), ()), ((), (0,), ()))
        self.assertEqual(self.least(rows, right, 0), [])
        # What the take makes lies in box 2: said there, asked there, but the take must be handed it, too.
        bent = right[:1] + (((), (2, 0, 1), ()),) + right[2:]
        self.assertEqual(self.least(rows, bent, 2), [(1, 0, 0)])
        # Box 1 is eaten up by what the take makes: the put needs another box, and so does the take.
        bent = right[:1] + (((), (1, 0, 1), ()),) + (((), (1,), ()), ((), (1,), ()))
        self.assertIsNone(self.least(rows, bent, 2))

    def test_one_box_only(self):
        # There is no other box that could be told.
        self.assertIsNone(self.least((("say", 1),), (((), (0,), ()),), 2, frame=(1, 0, ())))

    def test_rows_without_boxes(self):
        rows = (("go", 2), ("say", 1), SAY_0, END)
        groups = (((), (), ()), ((), (0,), ()), ((), (2,), ()), ((), (), ()))
        self.assertEqual(self.least(rows, groups, 2), [(2, 0, 0)])

    def test_changed_and_asked_again(self):
        for box, told in ((0, []), (1, [(0, 0, 0)])):
            first = self.least((SAY_0,), (((), (box,), ()),), 2)
            first.append(None)
            self.assertEqual(self.least((SAY_0,), (((), (box,), ()),), 2), told)

    def test_six_rows_and_seven(self):
        groups = (((), (0,), ()),) * 5 + (((), (1,), ()),)
        self.assertEqual(self.least((SAY_0,) * 6, groups, 2), [(5, 0, 0)])
        for most in (0, 1, 2):
            with self.assertRaises(TooMany):
                least((1, 2, (SAY_0,) * 7), (3, 0, ()), ((("box", 0),), (((), (0,), ()),) * 7), most)

    def test_counts_that_can_not_be(self):
        for rows in (1, 6, 7, 24):
            program = (1, 1, (SAY_0,) * rows)
            for most in NO_COUNTS:
                with self.subTest(rows=rows, most=most), self.assertRaises(BadCount):
                    least(program, FRAME, bare(program), most)

    def test_six_boxes_and_many_places(self):
        rows = (("add", 1, 2, 3),) * 5 + (("say", 1),)
        places = tuple(("slot", name) for name in range(8))
        groups = (((), (0, 0, 0), ()),) * 5 + (((), (0,), ()),)
        self.assertIsNone(self.least(rows, groups, 2, 8, (6, 8, (0, 1)), places))


class Renumbered(unittest.TestCase):
    def test_each_part(self):
        program = (3, 3, (("add", 0, 1, 2), ("if", 1, 0), END))
        frame = (3, 2, (0, 1))
        choice = (
            (("box", 0), ("slot", 0), ("box", 2)),
            (
                ((("copy", 0, 1), ("swap", 1, 2)), (0, 1, 2), (("store", 0, 1), ("load", 2, 1))),
                ((("store", 1, 0),), (2,), ()),
                ((), (), ()),
            ),
        )
        # Box 0 gets number 2, box 1 number 0, box 2 number 1.
        self.assertEqual(renumbered(program, frame, choice, (2, 0, 1)), (
            (3, 2, (0, 2)),
            (
                (("box", 2), ("slot", 0), ("box", 1)),
                (
                    ((("copy", 2, 0), ("swap", 0, 1)), (2, 0, 1), (("store", 0, 0), ("load", 1, 1))),
                    ((("store", 1, 2),), (1,), ()),
                    ((), (), ()),
                ),
            ),
        ))

    def test_the_same_numbers(self):
        self.assertEqual(renumbered(LOOP, FRAME, bare(LOOP), (0, 1, 2, 3)), (FRAME, bare(LOOP)))

    def test_eaten_boxes_rise(self):
        program = (0, 1, (END,))
        choice = ((), (((), (), ()),))
        told = renumbered(program, (6, 0, (0, 2, 3, 5)), choice, (5, 4, 3, 2, 1, 0))
        self.assertEqual(told[0], (6, 0, (0, 2, 3, 5)))
        told = renumbered(program, (6, 0, (0, 1, 2)), choice, (4, 0, 2, 1, 3, 5))
        self.assertEqual(told[0], (6, 0, (0, 2, 4)))
        self.assertEqual(renumbered(program, (1, 0, (0,)), choice, (0,)), ((1, 0, (0,)), choice))

    def test_there_and_back(self):
        choice = with_group(bare(LOOP), 3, ((("copy", 3, 0), ("store", 1, 3)), (3,), (("swap", 2, 3),)))
        there = renumbered(LOOP, FRAME, choice, (1, 3, 0, 2))
        self.assertNotEqual(there, (FRAME, choice))
        self.assertEqual(renumbered(LOOP, *there, (2, 0, 3, 1)), (FRAME, choice))

    def test_papers_and_ways_go_along(self):
        for at in range(7):
            choice = with_group(bare(LOOP), at, ((("swap", 0, 3),),) + bare(LOOP)[1][at][1:])
            frame, other = renumbered(LOOP, FRAME, choice, (1, 3, 0, 2))
            self.assertEqual(checked(LOOP, frame, other), checked(LOOP, FRAME, choice))
            for part, new in zip(paper(LOOP, FRAME, choice), paper(LOOP, frame, other)):
                self.assertEqual((new[1], new[3], new[0], new[2]) + new[4:], part)

    def test_orders_that_can_not_be(self):
        bad = (
            None, True, 5, "0123", [], (), [0, 1, 2, 3], (0, 1, 2), (0, 1, 2, 3, 4), (0, 1, 2, 4), (-1, 1, 2, 0),
            (0, 1, 2, 2), (0, 0, 0, 0), (1, 2, 3, 4), (0, True, 2, 3), (False, 1, 2, 3), (0, 1, 2, None),
            (0, 1, 2, "3"), (0, 1, 2, (3,)), (0, 1, 2, [3]), (0, 1, 2, 10 ** 19),
        )
        for order in bad:
            with self.subTest(order=order), self.assertRaises(BadCount):
                renumbered(LOOP, FRAME, bare(LOOP), order)


if __name__ == "__main__":
    unittest.main()
