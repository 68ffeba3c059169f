"""Runs over names and by boxes (points 3 and 5)."""

import unittest

from boxwitness.errors import BadCount, BadGiven
from boxwitness.runs import run, run_boxes
from samples import ALL_KINDS, FRAME, LOOP, bare, with_group

END = ("end",)
LONG = ("long",)


class Run(unittest.TestCase):
    def test_a_loop_that_ends(self):
        # Each turn is less, if, say, take, go: 1 + 3 * 5 rows, then less and if.
        self.assertEqual(run(LOOP, (3,), 1000), ([3, 2, 1], END, 18))
        self.assertEqual(run(LOOP, (0,), 1000), ([], END, 3))

    def test_kinds_of_what_is_told(self):
        told = run(LOOP, (3,), 1000)
        self.assertIsInstance(told, tuple)
        self.assertIsInstance(told[0], list)
        self.assertIsInstance(told[1], tuple)

    def test_fuel_just_enough_and_one_too_little(self):
        self.assertEqual(run(LOOP, (3,), 18), ([3, 2, 1], END, 18))
        self.assertEqual(run(LOOP, (3,), 17), ([3, 2, 1], LONG, 17))
        self.assertEqual(run((0, 1, (("say", 0), ("say", 0))), (), 2), ([0, 0], END, 2))
        self.assertEqual(run((0, 1, (("say", 0), ("say", 0))), (), 1), ([0], LONG, 1))

    def test_an_end_is_no_row_done(self):
        self.assertEqual(run((0, 1, (("say", 0), END)), (), 1), ([0], END, 1))

    def test_fuel_0(self):
        self.assertEqual(run((0, 1, (("say", 0),)), (), 0), ([], LONG, 0))
        self.assertEqual(run((0, 1, (END,)), (), 0), ([], END, 0))

    def test_fuel_1000(self):
        self.assertEqual(run((0, 1, (("go", 0),)), (), 1000), ([], LONG, 1000))
        said, end, done = run((0, 1, (("say", 0), ("go", 0))), (), 1000)
        self.assertEqual((len(said), end, done), (500, LONG, 1000))

    def test_ifs_and_gos_are_rows_done(self):
        self.assertEqual(run((1, 1, (("if", 0, 1), ("go", 2), END)), (0,), 9), ([], END, 2))
        self.assertEqual(run((1, 1, (("if", 0, 2), ("go", 2), END)), (1,), 9), ([], END, 1))

    def test_given_at_its_bounds(self):
        program = (2, 2, (("say", 0), ("say", 1)))
        self.assertEqual(run(program, (0, 999), 9)[0], [0, 999])

    def test_given_that_can_not_be(self):
        program = (2, 3, (("say", 0),))
        bad = (
            (), (1,), (1, 2, 3), (1, 1000), (-1, 1), (1, 10 ** 19), (True, 1), (1, False), (None, 1), ("1", 1),
            ((1,), 1), [1, 2], None, 5, "12", True,
        )
        for given in bad:
            with self.subTest(given=given), self.assertRaises(BadGiven):
                run(program, given, 9)
            with self.subTest(given=given), self.assertRaises(BadGiven):
                run_boxes(program, FRAME, bare(program), given, 9, [])

    def test_no_params(self):
        self.assertEqual(run((0, 1, (END,)), (), 9), ([], END, 0))
        for given in ((0,), [], None, 0, False):
            with self.subTest(given=given), self.assertRaises(BadGiven):
                run((0, 1, (END,)), given, 9)

    def test_fuel_that_can_not_be(self):
        for fuel in (-1, 1001, 10 ** 19, True, False, None, "5", (5,), [5]):
            with self.subTest(fuel=fuel), self.assertRaises(BadCount):
                run(LOOP, (3,), fuel)
            with self.subTest(fuel=fuel), self.assertRaises(BadCount):
                run_boxes(LOOP, FRAME, bare(LOOP), (3,), fuel, [])

    def test_changed_and_asked_again(self):
        told = run(LOOP, (3,), 1000)
        told[0].append(77)
        del told[0][0]
        self.assertEqual(run(LOOP, (3,), 1000), ([3, 2, 1], END, 18))


def boxes_say(frame, places, rows, groups, given=(), junk=(), names=1):
    """What a program of these rows says by boxes."""
    program = (len(places), names, rows)
    said, end, done = run_boxes(program, frame, (places, groups), given, 100, list(junk))
    assert (end, done) == (END, len(rows))
    return said


def say_all(boxes):
    """Rows and groups that say each box."""
    return (("say", 0),) * boxes, tuple(((), (box,), ()) for box in range(boxes))


class RunBoxes(unittest.TestCase):
    def test_tells_what_run_tells_of_boxes_for_names(self):
        self.assertEqual(run_boxes(LOOP, (3, 0, (1, 2)), bare(LOOP), (3,), 1000, [4, 5]), ([3, 2, 1], END, 18))
        told = run_boxes(ALL_KINDS, (4, 0, ()), bare(ALL_KINDS), (900, 7), 20, [8])
        self.assertEqual(told, run(ALL_KINDS, (900, 7), 20))

    def test_fuel(self):
        self.assertEqual(run_boxes(LOOP, FRAME, bare(LOOP), (3,), 18, []), ([3, 2, 1], END, 18))
        self.assertEqual(run_boxes(LOOP, FRAME, bare(LOOP), (3,), 17, []), ([3, 2, 1], LONG, 17))
        self.assertEqual(run_boxes(LOOP, FRAME, bare(LOOP), (3,), 0, []), ([], LONG, 0))
        loop = (0, 1, (("go", 0),))
        self.assertEqual(run_boxes(loop, FRAME, ((), (((), (), ()),)), (), 1000, []), ([], LONG, 1000))

    def test_what_nobody_filled_is_junk_in_turn(self):
        rows, groups = say_all(3)
        self.assertEqual(boxes_say((3, 0, ()), (), rows, groups, junk=(7, 8, 9)), [7, 8, 9])
        self.assertEqual(boxes_say((3, 0, ()), (), rows, groups, junk=(7, 8, 9, 10, 11)), [7, 8, 9])
        self.assertEqual(boxes_say((3, 0, ()), (), rows, groups, junk=(7, 8)), [7, 8, 7])
        self.assertEqual(boxes_say((3, 0, ()), (), rows, groups, junk=(7,)), [7, 7, 7])
        self.assertEqual(boxes_say((3, 0, ()), (), rows, groups, junk=()), [0, 0, 0])

    def test_slots_come_behind_boxes(self):
        rows = (("say", 0),) * 4
        groups = (
            ((), (0,), ()), ((), (1,), ()), ((("load", 0, 0),), (0,), ()), ((("load", 0, 1),), (0,), ()),
        )
        self.assertEqual(boxes_say((2, 2, ()), (), rows, groups, junk=(7, 8, 9, 10)), [7, 8, 9, 10])

    def test_more_slots_than_boxes(self):
        rows = (("say", 0),) * 3
        groups = ((("load", 0, 7),), (0,), ()), ((("load", 0, 6),), (0,), ()), ((("load", 0, 0),), (0,), ())
        told = boxes_say((1, 8, ()), (("slot", 7),), rows, groups, (500,), (1, 2, 3, 4, 5, 6, 7, 8, 9))
        self.assertEqual(told, [500, 8, 2])

    def test_the_places_of_params_spend_junk_too(self):
        rows, groups = say_all(3)
        told = boxes_say((3, 0, ()), (("box", 1),), rows, groups, given=(500,), junk=(7, 8, 9))
        self.assertEqual(told, [7, 500, 9])

    def test_params_in_slots_and_boxes(self):
        rows = (("say", 0), ("say", 1))
        groups = ((("load", 0, 1),), (0,), ()), ((), (1,), ())
        places = (("slot", 1), ("box", 1))
        self.assertEqual(boxes_say((2, 2, ()), places, rows, groups, (500, 600), (7,), 2), [500, 600])

    def test_a_call_eats_boxes_by_junk_that_goes_on(self):
        rows = (("call", 0, 0),) + (("say", 0),) * 4
        groups = (((), (3, 3), ()),) + say_all(4)[1]
        # Four boxes and one slot spend 1 to 5; boxes 0 and 2 then get 6 and 7, box 3 gets what 4 makes.
        told = boxes_say((4, 1, (0, 2)), (), rows, groups, junk=(1, 2, 3, 4, 5, 6, 7))
        self.assertEqual(told, [6, 2, 7, 119])
        # Of junk that is too short it goes on with the first number again.
        told = boxes_say((4, 1, (0, 2)), (), rows, groups, junk=(1, 2, 3, 4))
        self.assertEqual(told, [2, 2, 3, 119])
        told = boxes_say((4, 1, (0, 2)), (), rows, groups, junk=())
        self.assertEqual(told, [0, 0, 0, 3])

    def test_each_call_eats(self):
        rows = (("call", 0, 0), ("say", 0), ("call", 0, 0), ("say", 0))
        groups = (((), (0, 0), ()), ((), (1,), ()), ((), (0, 0), ()), ((), (1,), ()))
        self.assertEqual(boxes_say((2, 0, (1,)), (), rows, groups, junk=(1, 2, 3, 4)), [3, 4])

    def test_a_call_reads_ahead_of_eating(self):
        rows = (("call", 1, 0), ("say", 1), ("say", 0))
        groups = (((), (1, 0), ()), ((), (1,), ()), ((), (0,), ()))
        told = boxes_say((2, 0, (0,)), (("box", 0),), rows, groups, (2,), (50, 60, 70), 2)
        self.assertEqual(told, [33, 70])

    def test_a_call_makes_behind_eating(self):
        rows = (("call", 1, 0), ("say", 1), ("say", 0), ("say", 1))
        groups = (((), (1, 0), ()), ((), (1,), ()), ((), (0,), ()), ((), (2,), ()))
        # Box 1 is eaten and made: its junk is spent all the same, so box 2 gets the next one.
        told = boxes_say((3, 0, (1, 2)), (("box", 0),), rows, groups, (2,), (50, 60, 70, 80, 90), 2)
        self.assertEqual(told, [33, 2, 90])

    def test_only_calls_eat(self):
        rows = (("put", 0, 1), ("copy", 0, 0), ("add", 0, 0, 0), ("say", 0))
        groups = (((), (0,), ()), ((), (0, 0), ()), ((), (0, 0, 0), ()), ((), (1,), ()))
        self.assertEqual(boxes_say((2, 0, (0, 1)), (), rows, groups, junk=(5, 6)), [6])

    def test_rows_are_done_with_their_boxes(self):
        rows = (("add", 0, 1, 2), ("take", 1, 0, 2), ("less", 2, 0, 1), ("copy", 0, 1)) + (("say", 0),) * 4
        groups = (((), (3, 0, 1), ()), ((), (2, 0, 1), ()), ((), (0, 0, 1), ()), ((), (1, 3), ())) + say_all(4)[1]
        places = (("box", 0), ("box", 1), ("box", 2))
        self.assertEqual(boxes_say((4, 0, ()), places, rows, groups, (30, 40, 50), (), 3), [1, 70, 990, 70])

    def test_an_if_reads_its_box(self):
        program = (2, 2, (("if", 0, 2), ("say", 0), END))
        places = (("box", 0), ("box", 1))
        groups = (((), (1,), ()), ((), (0,), ()), ((), (), ()))
        self.assertEqual(run_boxes(program, (2, 0, ()), (places, groups), (0, 1), 9, []), ([], END, 1))
        self.assertEqual(run_boxes(program, (2, 0, ()), (places, groups), (1, 0), 9, []), ([1], END, 2))

    def test_moves_are_done_in_turn_ahead_and_behind(self):
        rows = (("say", 0),) * 3
        groups = (
            ((("swap", 0, 1), ("copy", 2, 0)), (2,), (("copy", 0, 2), ("store", 0, 1), ("copy", 1, 0))),
            ((), (1,), ()),
            ((("load", 2, 0),), (2,), ()),
        )
        places = (("box", 0), ("box", 1))
        self.assertEqual(boxes_say((3, 1, ()), places, rows, groups, (10, 20), (), 2), [20, 20, 10])

    def test_moves_ahead_of_an_if_and_a_go_are_done(self):
        program = (2, 2, (("if", 0, 2), ("go", 2), ("say", 0)))
        places = (("box", 0), ("box", 1))
        groups = (((("swap", 0, 1),), (0,), ()), ((("copy", 0, 1),), (), ()), ((), (0,), ()))
        self.assertEqual(run_boxes(program, (2, 0, ()), (places, groups), (5, 0), 9, []), ([5], END, 3))
        self.assertEqual(run_boxes(program, (2, 0, ()), (places, groups), (5, 6), 9, []), ([6], END, 2))

    def test_moves_behind_a_row_and_ahead_of_the_next_are_apart(self):
        rows = (("put", 0, 4), ("say", 0))
        groups = (((), (0,), (("copy", 1, 0),)), ((("swap", 0, 2),), (1,), ()))
        self.assertEqual(boxes_say((3, 0, ()), (), rows, groups), [4])

    def test_junk_that_can_not_be(self):
        for junk in (None, (), (1, 2), "12", 5, True, [1000], [1, -1], [1, True], [False], [None], ["1"], [[1]],
                     [(1,)], [1, 2, 3, 4, 5, 6, 7, 8, 9, 10 ** 19]):
            with self.subTest(junk=junk), self.assertRaises(BadGiven):
                run_boxes((0, 1, (END,)), FRAME, ((), (((), (), ()),)), (), 9, junk)

    def test_junk_at_its_bounds(self):
        rows, groups = say_all(2)
        self.assertEqual(boxes_say((2, 0, ()), (), rows, groups, junk=(0, 999)), [0, 999])

    def test_changed_and_asked_again(self):
        choice = with_group(bare(LOOP), 3, ((), (3,), ()))
        told = run_boxes(LOOP, FRAME, choice, (3,), 1000, [4, 5, 6, 7])
        self.assertEqual(told, ([7, 7, 7], END, 18))
        told[0].clear()
        again = run_boxes(LOOP, FRAME, choice, (3,), 1000, [4, 5, 6, 7])
        self.assertEqual(again, ([7, 7, 7], END, 18))


if __name__ == "__main__":
    unittest.main()
