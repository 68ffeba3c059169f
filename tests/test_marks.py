"""Walks by marks (point 6)."""

import unittest

from boxwitness.marks import walk
from samples import ALL_KINDS, FRAME, LOOP, bare, with_group

SAY_0 = ("say", 0)
SAY_1 = ("say", 1)


def truths(frame, places, rows, groups, names=2):
    """Whether each say and if of rows without jumps is the same."""
    return [same for row, same in walk((len(places), names, rows), frame, (places, groups), [False] * 30)]


class Ways(unittest.TestCase):
    def test_a_choice_that_is_right(self):
        told = walk(LOOP, FRAME, bare(LOOP), [False, False, True])
        self.assertEqual(told, [(2, True), (3, True), (2, True), (3, True), (2, True)])
        self.assertIsInstance(told, list)

    def test_a_way_that_is_empty(self):
        self.assertEqual(walk(LOOP, FRAME, bare(LOOP), []), [])
        self.assertEqual(walk((1, 1, (SAY_0, ("if", 0, 0))), FRAME, bare((1, 1, (SAY_0, ("if", 0, 0)))), []), [(0, True)])

    def test_a_way_that_is_too_short(self):
        self.assertEqual(walk(LOOP, FRAME, bare(LOOP), [False]), [(2, True), (3, True)])

    def test_a_way_that_is_too_long(self):
        self.assertEqual(walk(LOOP, FRAME, bare(LOOP), [True, False, False]), [(2, True)])

    def test_truths_and_not_numbers_tell_the_way(self):
        program = (0, 1, (("put", 0, 0), ("if", 0, 3), SAY_0, SAY_0))
        self.assertEqual(walk(program, FRAME, bare(program), [True]), [(1, True), (3, True)])
        self.assertEqual(walk(program, FRAME, bare(program), [False]), [(1, True), (2, True), (3, True)])

    def test_the_end_behind_the_last_row_and_at_an_end(self):
        program = (1, 1, (SAY_0, SAY_0))
        self.assertEqual(walk(program, FRAME, bare(program), []), [(0, True), (1, True)])
        program = (1, 1, (SAY_0, ("end",), SAY_0))
        self.assertEqual(walk(program, FRAME, bare(program), []), [(0, True)])

    def test_an_if_behind_which_the_rows_end(self):
        program = (1, 1, (SAY_0, ("if", 0, 0)))
        self.assertEqual(walk(program, FRAME, bare(program), [False]), [(0, True), (1, True)])

    def test_a_go(self):
        program = (1, 1, (("go", 2), SAY_0, SAY_0))
        self.assertEqual(walk(program, FRAME, bare(program), []), [(2, True)])

    def test_300_rows(self):
        program = (1, 1, (SAY_0, ("go", 0)))
        self.assertEqual(walk(program, FRAME, bare(program), []), [(0, True)] * 150)
        program = (1, 1, (SAY_0, SAY_0, ("go", 0)))
        self.assertEqual(walk(program, FRAME, bare(program), []), [(0, True), (1, True)] * 100)
        program = (1, 1, (("go", 1), SAY_0, ("go", 1)))
        self.assertEqual(walk(program, FRAME, bare(program), []), [(1, True)] * 150)

    def test_ifs_are_rows_done_too(self):
        program = (1, 1, (("if", 0, 0),))
        self.assertEqual(walk(program, FRAME, bare(program), [True] * 299), [(0, True)] * 299)
        self.assertEqual(walk(program, FRAME, bare(program), [True] * 300), [(0, True)] * 300)
        self.assertEqual(walk(program, FRAME, bare(program), [True] * 301), [(0, True)] * 300)

    def test_a_bent_choice(self):
        bent = with_group(bare(LOOP), 3, ((), (1,), ()))
        self.assertEqual(walk(LOOP, FRAME, bent, [False, True]), [(2, True), (3, False), (2, True)])
        bent = with_group(bare(LOOP), 2, ((), (0,), ()))
        self.assertEqual(walk(LOOP, FRAME, bent, [False, True]), [(2, False), (3, True), (2, False)])

    def test_a_loop_may_be_right_at_first_only(self):
        bent = with_group(bare(LOOP), 4, ((), (3, 0, 1), ()))
        told = walk(LOOP, FRAME, bent, [False, False, True])
        self.assertEqual(told, [(2, True), (3, True), (2, False), (3, False), (2, False)])

    def test_changed_and_asked_again(self):
        told = walk(ALL_KINDS, FRAME, bare(ALL_KINDS), [False, True])
        # The call eats box 0, in which the if's name lies.
        self.assertEqual(told, [(6, True), (7, False), (6, True), (7, False)])
        told.clear()
        self.assertEqual(len(walk(ALL_KINDS, FRAME, bare(ALL_KINDS), [False, True])), 4)


class AtFirst(unittest.TestCase):
    def test_params_lie_in_their_places(self):
        groups = (((), (1,), ()), ((("load", 0, 1),), (0,), ()))
        self.assertEqual(truths((2, 2, ()), (("box", 1), ("slot", 1)), (SAY_0, SAY_1), groups), [True, True])

    def test_params_are_apart(self):
        groups = (((), (1,), ()), ((), (0,), ()))
        self.assertEqual(truths((2, 0, ()), (("box", 0), ("box", 1)), (SAY_0, SAY_1), groups), [False, False])

    def test_names_that_are_no_params_lie_nowhere(self):
        for box in range(4):
            groups = (((), (box,), ()),)
            self.assertEqual(truths((4, 0, ()), (("box", 2),), (SAY_1,), groups), [False])
        groups = (((("load", 0, 0),), (0,), ()),)
        self.assertEqual(truths((4, 1, ()), (), (SAY_0,), groups), [False])


class Makers(unittest.TestCase):
    def test_put_is_handed_nothing_and_so_is_the_same(self):
        groups = (((), (3,), ()), ((), (3,), ()), ((), (2,), ()))
        self.assertEqual(truths((4, 0, ()), (("box", 2),), (("put", 0, 5), SAY_0, SAY_0), groups), [True, False])

    def test_a_new_mark_each_time(self):
        # The same number is put twice, but the box of the first one is none of the name any more.
        rows = (("put", 0, 5), ("put", 0, 5), SAY_0, SAY_0)
        groups = (((), (0,), ()), ((), (1,), ()), ((), (0,), ()), ((), (1,), ()))
        self.assertEqual(truths((2, 0, ()), (), rows, groups), [False, True])

    def test_what_a_row_makes_over_a_box_is_gone(self):
        rows = (("put", 1, 5), SAY_0, SAY_1)
        groups = (((), (0,), ()), ((), (0,), ()), ((), (0,), ()))
        self.assertEqual(truths((2, 0, ()), (("box", 0),), rows, groups), [False, True])

    def test_each_row_of_two_that_is_handed_a_wrong_mark(self):
        places = (("box", 0), ("box", 1))
        for word in ("add", "take", "less"):
            rows = ((word, 2, 0, 1), ("say", 2))
            for one, other, told in ((0, 1, True), (2, 1, False), (0, 2, False), (1, 0, False), (0, 0, False)):
                groups = (((), (3, one, other), ()), ((), (3,), ()))
                self.assertEqual(truths((4, 0, ()), places, rows, groups, 3), [told], (word, one, other))

    def test_a_call_that_is_handed_a_wrong_mark(self):
        places = (("box", 0), ("box", 1))
        for handed, told in ((0, True), (1, False), (2, False)):
            groups = (((), (3, handed), ()), ((), (3,), ()))
            self.assertEqual(truths((4, 0, ()), places, (("call", 1, 0), SAY_1), groups), [told])

    def test_a_wrong_mark_is_like_no_other(self):
        # By the wrong box of the first row no name is come to, neither the old one nor the new one.
        rows = (("call", 1, 0), SAY_0, SAY_1)
        groups = (((), (0, 1), ()), ((), (0,), ()), ((), (0,), ()))
        self.assertEqual(truths((2, 0, ()), (("box", 0), ("box", 1)), rows, groups), [False, False])

    def test_the_other_box_that_has_the_mark_does(self):
        rows = (("put", 0, 1), ("add", 1, 0, 0), SAY_1)
        groups = (((), (0,), (("copy", 2, 0),)), ((), (1, 0, 2), ()), ((), (1,), ()))
        self.assertEqual(truths((3, 0, ()), (), rows, groups), [True])

    def test_a_name_that_a_row_is_handed_and_makes(self):
        rows = (("add", 0, 0, 0), SAY_0, SAY_0)
        groups = (((), (1, 0, 0), ()), ((), (1,), ()), ((), (0,), ()))
        self.assertEqual(truths((2, 0, ()), (("box", 0),), rows, groups), [True, False])


class Eaten(unittest.TestCase):
    def test_eaten_boxes_lose_what_they_had(self):
        rows = (("call", 2, 0), SAY_0, SAY_1, ("say", 2))
        places = (("box", 0), ("box", 1))
        groups = (((), (2, 0), ()), ((), (0,), ()), ((), (1,), ()), ((), (2,), ()))
        for eaten, told in (((), [True, True, True]), ((0,), [False, True, True]), ((1,), [True, False, True]),
                            ((0, 1), [False, False, True]), ((0, 1, 2), [False, False, True])):
            self.assertEqual(truths((3, 0, eaten), places, rows, groups, 3), told, eaten)

    def test_only_calls_eat(self):
        rows = (("put", 1, 1), ("copy", 1, 1), ("less", 1, 1, 1), SAY_0)
        groups = (((), (1,), ()), ((), (1, 1), ()), ((), (1, 1, 1), ()), ((), (0,), ()))
        self.assertEqual(truths((2, 0, (0, 1)), (("box", 0),), rows, groups), [True])

    def test_a_slot_is_not_eaten(self):
        rows = (("call", 1, 0), SAY_0)
        groups = (((("store", 0, 0),), (1, 0), (("load", 0, 0),)), ((), (0,), ()))
        self.assertEqual(truths((2, 1, (0, 1)), (("box", 0),), rows, groups), [True])

    def test_a_call_that_is_wrong_eats_and_makes_nothing_of_its_name(self):
        rows = (("call", 1, 0), SAY_0, SAY_1)
        groups = (((), (2, 1), ()), ((), (0,), ()), ((), (2,), ()))
        self.assertEqual(truths((3, 0, (0,)), (("box", 0),), rows, groups), [False, False])


class HandedOn(unittest.TestCase):
    def test_copy_of_a_name(self):
        rows = (("copy", 1, 0), SAY_1, SAY_1, SAY_0)
        groups = (((), (1, 0), ()), ((), (1,), ()), ((), (0,), ()), ((), (1,), ()))
        self.assertEqual(truths((2, 0, ()), (("box", 0),), rows, groups), [True, True, True])

    def test_copy_of_a_name_by_a_wrong_box(self):
        rows = (("copy", 1, 0), SAY_1, SAY_0, SAY_1)
        groups = (((), (1, 2), ()), ((), (1,), ()), ((), (0,), ()), ((), (0,), ()))
        self.assertEqual(truths((3, 0, ()), (("box", 0), ("box", 1)), rows, groups), [False, True, True])

    def test_copy_by_a_box_of_another_name(self):
        # The box gets what the other box has, whatever the names are.
        rows = (("copy", 2, 0), SAY_1, ("say", 2))
        groups = (((), (2, 1), ()), ((), (2,), ()), ((), (2,), ()))
        self.assertEqual(truths((3, 0, ()), (("box", 0), ("box", 1)), rows, groups, 3), [True, False])

    def test_copy_of_what_lies_nowhere_is_a_mark_too(self):
        # Name 1 lies nowhere; the name that is a copy of it neither, but each is a copy of the other.
        rows = (("copy", 0, 1), SAY_0, SAY_1)
        groups = (((), (0, 1), ()), ((), (0,), ()), ((), (1,), ()))
        self.assertEqual(truths((2, 0, ()), (("box", 0),), rows, groups), [False, False])

    def test_a_copy_stays_when_the_other_one_changes(self):
        rows = (("copy", 1, 0), ("put", 0, 3), SAY_1, SAY_1, SAY_0)
        groups = (((), (1, 0), ()), ((), (0,), ()), ((), (1,), ()), ((), (0,), ()), ((), (0,), ()))
        self.assertEqual(truths((2, 0, ()), (("box", 0),), rows, groups), [True, False, True])

    def test_copy_of_a_box(self):
        rows = (SAY_0, SAY_0, SAY_1)
        groups = (((("copy", 1, 0),), (1,), ()), ((), (0,), ()), ((), (1,), ()))
        self.assertEqual(truths((2, 0, ()), (("box", 0), ("box", 1)), rows, groups), [True, True, False])

    def test_swap(self):
        rows = (SAY_0, SAY_1)
        groups = (((("swap", 1, 0),), (1,), ()), ((), (0,), ()))
        self.assertEqual(truths((2, 0, ()), (("box", 0), ("box", 1)), rows, groups), [True, True])

    def test_store_and_load(self):
        rows = (("put", 1, 3), SAY_0, SAY_1)
        groups = (((("store", 1, 0),), (0,), (("copy", 1, 0), ("load", 0, 1))), ((), (0,), ()), ((), (1,), ()))
        self.assertEqual(truths((2, 2, ()), (("box", 0),), rows, groups), [True, True])
        groups = (((("store", 1, 0),), (0,), (("copy", 1, 0), ("load", 0, 0))), ((), (0,), ()), ((), (1,), ()))
        self.assertEqual(truths((2, 2, ()), (("box", 0),), rows, groups), [False, True])

    def test_more_slots_than_boxes(self):
        rows = (SAY_0, SAY_1, SAY_0)
        groups = (((("load", 0, 7),), (0,), ()), ((("load", 0, 6),), (0,), ()), ((("load", 0, 5),), (0,), ()))
        self.assertEqual(truths((1, 8, ()), (("slot", 7), ("slot", 6)), rows, groups), [True, True, False])

    def test_moves_ahead_of_an_if_and_a_go(self):
        program = (2, 2, (("if", 0, 2), ("go", 2), SAY_0))
        places = (("box", 0), ("box", 1))
        groups = (((("swap", 0, 1),), (1,), ()), ((("swap", 0, 1),), (), ()), ((), (0,), ()))
        self.assertEqual(walk(program, (2, 0, ()), (places, groups), [True]), [(0, True), (2, False)])
        self.assertEqual(walk(program, (2, 0, ()), (places, groups), [False]), [(0, True), (2, True)])


if __name__ == "__main__":
    unittest.main()
