"""Whether a choice is let by, and else the shortest way to what isn't the same (point 7)."""

import unittest

from boxwitness.checking import checked
from boxwitness.marks import walk
from boxwitness.runs import run, run_boxes
from samples import ALL_KINDS, FRAME, LOOP, bare, with_group

SAY_0 = ("say", 0)
END = ("end",)
EMPTY = ((), (), ())
# Box 0 has name 0 in what follows, box 1 doesn't.
GOOD = ((), (0,), ())
WRONG = ((), (1,), ())


def told_of(rows, groups, names=2, frame=(3, 0, ()), places=(("box", 0),)):
    return checked((len(places), names, rows), frame, (places, groups))


class LetBy(unittest.TestCase):
    def test_a_loop(self):
        self.assertIsNone(checked(LOOP, (3, 0, ()), bare(LOOP)))
        self.assertIsNone(checked(LOOP, FRAME, bare(LOOP)))

    def test_all_rows(self):
        self.assertIsNone(checked(ALL_KINDS, (4, 0, (2,)), bare(ALL_KINDS)))

    def test_one_row(self):
        for row in (("put", 0, 1), ("copy", 0, 1), ("add", 0, 1, 1), ("call", 1, 0), ("go", 0), END):
            program = (1, 2, (row,))
            self.assertIsNone(checked(program, (2, 0, (0, 1)), bare(program)), row)

    def test_rows_that_make_may_be_handed_what_is_wrong(self):
        self.assertIsNone(told_of((("call", 1, 0), SAY_0), (((), (1, 2), ()), GOOD)))

    def test_what_is_wrong_where_no_way_leads(self):
        self.assertIsNone(told_of((("go", 2), SAY_0, END, SAY_0), (EMPTY, WRONG, EMPTY, WRONG)))
        self.assertIsNone(told_of((SAY_0, END, ("if", 0, 0)), (GOOD, EMPTY, WRONG)))

    def test_the_same_numbers_by_other_marks_are_not_let_by(self):
        # Name 1 is 5 both times, but box 1 has it from the first time only: not the other way about.
        program = (0, 2, (("put", 1, 5), ("put", 1, 5), ("say", 1)))
        choice = ((), (((), (1,), ()), ((), (0,), ()), ((), (1,), ())))
        self.assertEqual(checked(program, (2, 0, ()), choice), ([], 2))
        self.assertEqual(run_boxes(program, (2, 0, ()), choice, (), 9, [3]), run(program, (), 9))


class Told(unittest.TestCase):
    def test_a_say_at_once(self):
        self.assertEqual(told_of((SAY_0,), (WRONG,)), ([], 0))

    def test_an_if_at_once(self):
        self.assertEqual(told_of((("if", 0, 0),), (WRONG,)), ([], 0))

    def test_a_name_that_is_no_param_and_was_not_made(self):
        for box in (0, 1, 2):
            self.assertEqual(told_of((SAY_0, ("say", 1)), (GOOD, ((), (box,), ()))), ([], 1))

    def test_a_say_behind_an_if(self):
        self.assertEqual(checked(LOOP, FRAME, with_group(bare(LOOP), 3, ((), (1,), ()))), ([False], 3))

    def test_an_if_has_no_truth_of_its_own_in_the_way(self):
        bent = with_group(bare(LOOP), 2, ((), (0,), ()))
        self.assertEqual(checked(LOOP, FRAME, bent), ([], 2))
        self.assertEqual(walk(LOOP, FRAME, bent, []), [])
        self.assertEqual(walk(LOOP, FRAME, bent, [True]), [(2, False)])

    def test_a_loop_that_is_right_at_first_only(self):
        # What the take makes lies in box 3, so that in the next turn the less is handed something else.
        bent = with_group(bare(LOOP), 4, ((), (3, 0, 1), ()))
        self.assertEqual(checked(LOOP, FRAME, bent), ([False], 2))

    def test_each_part_of_what_a_row_is_handed(self):
        rows = (("add", 2, 0, 1), ("say", 2))
        places = (("box", 0), ("box", 1))
        for one, other, told in ((0, 1, None), (1, 1, ([], 1)), (0, 0, ([], 1)), (2, 1, ([], 1)), (0, 2, ([], 1))):
            groups = (((), (2, one, other), ()), ((), (2,), ()))
            self.assertEqual(told_of(rows, groups, 3, (3, 0, ()), places), told)

    def test_eaten_boxes(self):
        rows = (("call", 1, 0), SAY_0, ("say", 1))
        groups = (((), (1, 0), ()), GOOD, ((), (1,), ()))
        self.assertIsNone(told_of(rows, groups, frame=(3, 0, (1, 2))))
        self.assertEqual(told_of(rows, groups, frame=(3, 0, (0,))), ([], 1))
        kept = (((("store", 0, 0),), (1, 0), (("load", 0, 0),)), GOOD, ((), (1,), ()))
        self.assertIsNone(told_of(rows, kept, frame=(3, 1, (0, 1, 2))))

    def test_moves_ahead_and_behind(self):
        rows = (SAY_0, SAY_0)
        self.assertIsNone(told_of(rows, (((("swap", 0, 1),), (1,), (("copy", 2, 1),)), ((), (2,), ()))))
        self.assertEqual(told_of(rows, (((("swap", 0, 1),), (0,), ()), GOOD)), ([], 0))
        self.assertEqual(told_of(rows, (((), (0,), (("swap", 0, 1),)), GOOD)), ([], 1))
        self.assertEqual(told_of(rows, (GOOD, ((("copy", 0, 2),), (0,), ()))), ([], 1))

    def test_copy_hands_the_name_on(self):
        rows = (("copy", 1, 0), ("put", 0, 1), ("say", 1), SAY_0)
        groups = (((), (1, 0), ()), GOOD, ((), (1,), ()), GOOD)
        self.assertIsNone(told_of(rows, groups))
        self.assertEqual(told_of(rows, with_group(((), groups), 2, GOOD)[1]), ([], 2))
        self.assertEqual(told_of(rows, with_group(((), groups), 0, ((), (1, 2), ()))[1]), ([], 2))
        self.assertEqual(told_of(rows, with_group(((), groups), 1, WRONG)[1]), ([], 2))

    def test_changed_and_asked_again(self):
        bent = with_group(bare(LOOP), 3, ((), (1,), ()))
        told = checked(LOOP, FRAME, bent)
        told[0].append(True)
        self.assertEqual(checked(LOOP, FRAME, bent), ([False], 3))
        self.assertIsInstance(told, tuple)
        self.assertIsInstance(told[0], list)


class WhichWay(unittest.TestCase):
    def test_the_fewest_rows_come_ahead_of_the_least_way(self):
        rows = (("if", 0, 3), ("put", 1, 0), SAY_0, SAY_0)
        groups = (GOOD, WRONG, WRONG, WRONG)
        self.assertEqual(told_of(rows, groups), ([True], 3))

    def test_of_as_many_rows_false_comes_ahead_of_true(self):
        rows = (("if", 0, 2), SAY_0, SAY_0)
        self.assertEqual(told_of(rows, (GOOD, WRONG, WRONG)), ([False], 1))
        self.assertEqual(told_of(rows, (GOOD, GOOD, WRONG)), ([True], 2))

    def test_the_least_list_and_not_the_shortest(self):
        # Both says have two rows done ahead: by [False, False] and [False, True], or by [True].
        rows = (("if", 0, 3), ("if", 0, 2), SAY_0, ("put", 1, 0), SAY_0)
        groups = (GOOD, GOOD, WRONG, WRONG, WRONG)
        self.assertEqual(told_of(rows, groups), ([False, False], 2))
        groups = (GOOD, GOOD, GOOD, WRONG, WRONG)
        self.assertEqual(told_of(rows, groups), ([True], 4))

    def test_fewer_truths_with_more_rows_are_not_told(self):
        # Row 5 is come to by [True] with three rows done, row 8 by [False, True] with two.
        rows = (
            ("if", 0, 3), ("if", 0, 8), END,
            ("put", 1, 0), ("put", 1, 0), SAY_0, END, END, SAY_0,
        )
        groups = (GOOD, GOOD, EMPTY, WRONG, WRONG, WRONG, EMPTY, EMPTY, WRONG)
        self.assertEqual(told_of(rows, groups), ([False, True], 8))

    def test_an_if_that_tells_the_next_row(self):
        self.assertEqual(told_of((("if", 0, 1), SAY_0), (GOOD, WRONG)), ([False], 1))

    def test_gos_are_rows_done_too(self):
        # Row 4 is come to by False over a go with two rows done, row 2 by True with one.
        rows = (("if", 0, 2), ("go", 4), SAY_0, END, SAY_0)
        self.assertEqual(told_of(rows, (GOOD, EMPTY, WRONG, EMPTY, WRONG)), ([True], 2))

    def test_an_if_is_told_ahead_of_a_say_that_lies_further(self):
        rows = (("put", 1, 1), ("if", 0, 0), SAY_0)
        self.assertEqual(told_of(rows, (WRONG, WRONG, WRONG)), ([], 1))

    def test_only_one_of_the_ways_to_a_row_is_wrong(self):
        rows = (("if", 0, 2), ("go", 3), ("put", 0, 5), SAY_0)
        # By True name 0 is made anew, in box 1, so that box 0 has the old one.
        self.assertEqual(told_of(rows, (GOOD, EMPTY, WRONG, GOOD)), ([True], 3))
        # By False it stays in box 0.
        self.assertEqual(told_of(rows, (GOOD, EMPTY, WRONG, WRONG)), ([False], 3))

    def test_a_row_may_be_wrong_only_when_it_is_come_to_again(self):
        rows = (SAY_0, ("if", 0, 0))
        groups = (((), (0,), (("copy", 1, 0), ("copy", 0, 2))), WRONG)
        self.assertEqual(told_of(rows, groups), ([True], 0))

    def test_a_way_behind_the_last_row_ends(self):
        rows = (("if", 0, 0),)
        self.assertIsNone(told_of(rows, (GOOD,)))
        self.assertEqual(told_of(rows, (((("swap", 0, 1),), (1,), ()),)), ([True], 0))

    def test_the_way_must_be_the_one_that_is_wrong_by_a_later_row(self):
        # Both ways to row 3 have two rows done; only by True does box 1 lose name 1, which row 4 says.
        rows = (("if", 0, 2), ("go", 3), ("put", 1, 5), ("put", 0, 0), ("say", 1))
        places = (("box", 0), ("box", 1))
        groups = (GOOD, EMPTY, ((), (2,), ()), GOOD, ((), (1,), ()))
        self.assertEqual(told_of(rows, groups, places=places), ([True], 4))


class LongWays(unittest.TestCase):
    def test_a_loop_that_goes_wrong_in_its_fourth_turn(self):
        # Each turn what lies in box 3 is pushed one box further, out of box 0 in the end.
        rows = (SAY_0, SAY_0, ("if", 0, 1))
        push = (("copy", 0, 1), ("copy", 1, 2), ("copy", 2, 3), ("load", 3, 0))
        groups = (((("copy", 1, 0), ("copy", 2, 0), ("copy", 3, 0)), (0,), ()), ((), (0,), push), GOOD)
        self.assertEqual(told_of(rows, groups, 1, (4, 1, ())), ([True] * 3, 2))

    def test_a_say_ahead_of_which_300_rows_are_done(self):
        # Name 0 lies in boxes 0 to 4 and all slots; each turn of 23 rows all are pushed one further,
        # and slot 7 gets what was put into box 5. So box 0 loses it in turn 13, and the say is wrong in turn 14.
        spread = [("copy", box, 0) for box in range(1, 5)] + [("store", slot, 0) for slot in range(8)]
        boxes = [("copy", box, box + 1) for box in range(4)] + [("load", 4, 0)]
        slots = [move for slot in range(7) for move in (("load", 5, slot + 1), ("store", slot, 5))]
        groups = [
            (tuple(spread[:6]), (0,), tuple(spread[6:])),
            GOOD,
            (tuple(boxes), (5,), tuple(slots[:6])),
            (tuple(slots[6:12]), (5,), tuple(slots[12:])),
            ((), (5,), (("store", 7, 5),)),
        ]
        rows = (SAY_0, SAY_0) + (("put", 7, 0),) * 21 + (("if", 7, 1),)
        program = (1, 8, rows)
        choice = ((("box", 0),), tuple(groups) + (((), (5,), ()),) * 19)
        self.assertEqual(checked(program, (6, 8, ()), choice), ([True] * 13, 1))
        # walk tells of 300 rows only, and all of these are the same.
        self.assertEqual({same for row, same in walk(program, (6, 8, ()), choice, [True] * 13)}, {True})

    def test_very_many_ways(self):
        # 22 ifs that all tell the next row.
        rows = tuple(("if", 0, at + 1) for at in range(22)) + (SAY_0, END)
        groups = (GOOD,) * 22 + (WRONG, EMPTY)
        self.assertEqual(told_of(rows, groups), ([False] * 22, 22))
        self.assertIsNone(told_of(rows, groups[:22] + (GOOD, EMPTY)))

    def test_very_many_ways_that_leave_something_else_each(self):
        # Seven times a name is put, or isn't: then all are said. 24 rows, 8 names, 6 boxes, 8 slots.
        rows = []
        groups = []
        for name in range(7):
            rows += [("if", 7, 2 * name + 2), ("put", name, 1)]
            groups += [((("load", 0, 7),), (0,), ()), ((), (1,), (("store", name, 1),))]
        rows += [("say", name) for name in range(8)] + [("go", 0), END]
        groups += [((("load", 5, name),), (5,), ()) for name in range(8)] + [EMPTY, EMPTY]
        program = (8, 8, tuple(rows))
        choice = (tuple(("slot", name) for name in range(8)), tuple(groups))
        frame = (6, 8, (0, 1, 2, 3, 4, 5))
        self.assertIsNone(checked(program, frame, choice))
        # Name 3 isn't stored: just the way that puts it is wrong, and to put no other one has the fewest rows.
        bent = with_group(choice, 7, ((), (1,), ()))
        self.assertEqual(checked(program, frame, bent), ([True] * 3 + [False] + [True] * 3, 17))
        # Name 5 isn't either: by both there is as long a way, but name 3 is said first.
        self.assertEqual(checked(program, frame, with_group(bent, 11, ((), (1,), ()))), (
            [True] * 3 + [False] + [True] * 3, 17))
        # Where name 3 is stored for name 2, too, name 2 is said first.
        bent = with_group(choice, 7, ((), (1,), (("store", 3, 1), ("store", 2, 1))))
        self.assertEqual(checked(program, frame, bent), ([True] * 3 + [False] + [True] * 3, 16))


if __name__ == "__main__":
    unittest.main()
