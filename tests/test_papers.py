"""Papers, and whether they show that a choice is let by (points 8 and 9)."""

import unittest

from boxwitness.errors import BadPaper
from boxwitness.papers import paper, shows
from samples import ALL_KINDS, FRAME, LOOP, bare, empty_paper, with_group

SAY_0 = ("say", 0)


def told_by(frame, places, rows, groups, names):
    return paper((len(places), names, rows), frame, (places, groups))


class Paper(unittest.TestCase):
    def test_a_loop(self):
        self.assertEqual(paper(LOOP, (3, 1, ()), bare(LOOP)), [
            ((0,), (), (), ()),
            ((0,), (1,), (), ()),
            ((0,), (1,), (2,), ()),
            ((0,), (1,), (2,), ()),
            ((0,), (1,), (2,), ()),
            ((0,), (1,), (2,), ()),
            ((0,), (1,), (2,), ()),
        ])

    def test_params_in_boxes_and_slots(self):
        groups = (((), (1,), ()),)
        told = told_by((2, 2, ()), (("slot", 1), ("box", 1)), (("say", 1),), groups, 3)
        self.assertEqual(told, [((), (1,), (), (0,))])

    def test_more_slots_than_boxes(self):
        groups = (((("load", 0, 7),), (0,), (("store", 6, 0),)), ((), (0,), ()))
        told = told_by((1, 8, (0,)), (("slot", 7),), (SAY_0, SAY_0), groups, 1)
        self.assertEqual(told, [((),) * 8 + ((0,),), ((0,),) + ((),) * 6 + ((0,), (0,))])

    def test_a_part_is_what_lies_ahead_of_the_moves(self):
        groups = (((("store", 0, 0), ("load", 1, 0)), (0,), (("swap", 0, 2),)), ((), (2,), ()))
        told = told_by((3, 1, ()), (("box", 0),), (SAY_0, SAY_0), groups, 1)
        self.assertEqual(told, [((0,), (), (), ()), ((), (0,), (0,), (0,))])

    def test_rows_to_which_no_way_leads(self):
        rows = (("go", 3), SAY_0, ("go", 1), ("end",), SAY_0)
        groups = (((), (), ()), ((), (0,), ()), ((), (), ()), ((), (), ()), ((), (0,), ()))
        told = told_by((1, 0, ()), (("box", 0),), rows, groups, 1)
        self.assertEqual(told, [((0,),), None, None, ((0,),), None])

    def test_both_ways_of_an_if_lead_on(self):
        rows = (("if", 0, 2), ("end",), SAY_0)
        groups = (((), (0,), ()), ((), (), ()), ((), (0,), ()))
        told = told_by((1, 0, ()), (("box", 0),), rows, groups, 1)
        self.assertEqual(told, [((0,),), ((0,),), ((0,),)])

    def test_ways_that_meet_and_tell_otherwise(self):
        # One way leaves name 0 in boxes 0 and 1, the other one in boxes 1 and 2.
        rows = (("if", 0, 3), SAY_0, ("go", 4), SAY_0, SAY_0)
        groups = (
            ((), (0,), ()), ((), (0,), (("copy", 1, 0),)), ((), (), ()),
            ((("swap", 0, 2),), (2,), (("copy", 1, 2),)), ((), (1,), ()),
        )
        told = told_by((3, 0, ()), (("box", 0),), rows, groups, 1)
        self.assertEqual(told[2], ((0,), (0,), ()))
        self.assertEqual(told[4], ((), (0,), ()))

    def test_ways_that_meet_and_tell_nothing_alike(self):
        rows = (("if", 0, 2), SAY_0, SAY_0)
        groups = (((), (0,), ()), ((), (0,), (("swap", 0, 1),)), ((), (0,), ()))
        told = told_by((2, 0, ()), (("box", 0),), rows, groups, 1)
        self.assertEqual(told, [((0,), ()), ((0,), ()), ((), ())])

    def test_a_loop_takes_from_its_first_row(self):
        rows = (SAY_0, ("if", 0, 0))
        groups = (((), (0,), (("swap", 0, 1),)), ((), (1,), ()))
        told = told_by((2, 0, ()), (("box", 0),), rows, groups, 1)
        self.assertEqual(told, [((), ()), ((), ())])

    def test_what_a_loop_takes_only_when_it_was_gone_round_more_than_once(self):
        # Each turn what lies in box 3 is pushed one box further, out of box 0 in the end.
        rows = (SAY_0, SAY_0, ("if", 0, 1))
        push = (("copy", 0, 1), ("copy", 1, 2), ("copy", 2, 3), ("load", 3, 0))
        groups = (((("copy", 1, 0), ("copy", 2, 0), ("copy", 3, 0)), (0,), ()), ((), (0,), push), ((), (0,), ()))
        told = told_by((4, 1, ()), (("box", 0),), rows, groups, 1)
        self.assertEqual(told, [((0,), (), (), (), ()), ((),) * 5, ((),) * 5])

    def test_all_rows_that_make(self):
        frame = (4, 0, (2,))
        told = paper(ALL_KINDS, frame, bare(ALL_KINDS))
        self.assertEqual(told[:7], [
            ((0,), (1,), (), ()),
            ((0,), (1,), (2,), ()),
            ((0, 3), (1,), (2,), (0, 3)),
            ((0, 3), (1,), (2,), (0, 3)),
            ((0,), (1,), (2,), (3,)),
            ((0,), (1,), (2,), (3,)),
            ((0,), (1,), (), (3,)),
        ])

    def test_a_row_that_is_handed_a_wrong_box(self):
        for word in ("add", "take", "less"):
            rows = ((word, 2, 0, 1), SAY_0)
            for one, other, made in ((0, 1, (2,)), (1, 0, ()), (0, 3, ()), (3, 1, ())):
                groups = (((), (2, one, other), ()), ((), (0,), ()))
                told = told_by((4, 0, ()), (("box", 0), ("box", 1)), rows, groups, 3)
                self.assertEqual(told[1], ((0,), (1,), made, ()))

    def test_a_call_reads_then_eats_then_makes(self):
        rows = (("call", 1, 0), SAY_0)
        groups = (((), (1, 0), ()), ((), (0,), ()))
        told = told_by((3, 1, (0, 1)), (("box", 0), ("box", 2)), rows, groups, 2)
        self.assertEqual(told[1], ((), (1,), (), ()))
        groups = (((), (0, 0), (("copy", 2, 0),)), ((), (0,), ()))
        told = told_by((3, 1, (0, 1)), (("box", 0), ("slot", 0)), rows, groups, 2)
        self.assertEqual(told[1], ((1,), (), (1,), ()))

    def test_copy(self):
        rows = (("copy", 0, 2), SAY_0)
        places = (("box", 0), ("box", 1), ("slot", 0))
        # Where the row is handed the right box, both names lie in it and in all others of the other name.
        groups = (((("load", 2, 0),), (0, 2), ()), ((), (0,), ()))
        self.assertEqual(told_by((3, 1, ()), places, rows, groups, 3)[1], ((0, 2), (1,), (0, 2), (0, 2)))
        # Where it isn't, the box gets what the wrong one has.
        groups = (((), (0, 1), ()), ((), (0,), ()))
        self.assertEqual(told_by((3, 1, ()), places, rows, groups, 3)[1], ((1,), (1,), (), (0, 2)))
        groups = (((), (2, 0), ()), ((), (0,), ()))
        self.assertEqual(told_by((3, 1, ()), places, rows, groups, 3)[1], ((), (1,), (), (0, 2)))

    def test_copy_of_itself(self):
        rows = (("copy", 0, 0), SAY_0)
        groups = (((), (1, 0), ()), ((), (0,), ()))
        self.assertEqual(told_by((2, 0, ()), (("box", 0),), rows, groups, 1)[1], ((0,), (0,)))

    def test_names_that_are_copies_rise(self):
        rows = (("copy", 2, 1), ("copy", 0, 2), SAY_0)
        groups = (((), (0, 0), ()), ((), (0, 0), ()), ((), (0,), ()))
        program = (2, 3, rows)
        told = paper(program, (2, 0, ()), ((("box", 1), ("box", 0)), groups))
        self.assertEqual(told, [((1,), (0,)), ((1, 2), (0,)), ((0, 1, 2), ())])

    def test_changed_and_asked_again(self):
        told = paper(LOOP, FRAME, bare(LOOP))
        before = list(told)
        told[0] = None
        told.append(5)
        self.assertEqual(paper(LOOP, FRAME, bare(LOOP)), before)


class Shown(unittest.TestCase):
    def test_papers_own_telling(self):
        for program in (LOOP, ALL_KINDS):
            told = paper(program, (4, 1, (3,)), bare(program))
            self.assertIs(shows(program, (4, 1, (3,)), bare(program), told), True)

    def test_papers_own_telling_of_a_bent_choice(self):
        for at, group in ((2, ((), (0,), ())), (3, ((), (1,), ())), (4, ((), (3, 0, 1), ())), (1, ((), (2, 1, 0), ()))):
            bent = with_group(bare(LOOP), at, group)
            self.assertIs(shows(LOOP, FRAME, bent, paper(LOOP, FRAME, bent)), False, at)

    def test_a_paper_of_another_choice(self):
        bent = with_group(bare(LOOP), 0, ((), (3,), ()))
        self.assertFalse(shows(LOOP, FRAME, bent, paper(LOOP, FRAME, bare(LOOP))))

    def test_a_name_more_at_any_place(self):
        frame = (3, 2, (0,))
        told = paper(LOOP, frame, bare(LOOP))
        for at, part in enumerate(told):
            for cell, held in enumerate(part):
                for name in range(3):
                    if name not in held:
                        more = part[:cell] + (tuple(sorted(held + (name,))),) + part[cell + 1:]
                        changed = told[:at] + [more] + told[at + 1:]
                        self.assertFalse(shows(LOOP, frame, bare(LOOP), changed), (at, cell, name))

    def test_a_name_less_where_it_is_needed(self):
        told = paper(LOOP, (3, 1, ()), bare(LOOP))
        for at, cell in ((0, 0), (1, 0), (1, 1), (2, 0), (2, 1), (2, 2), (3, 0), (4, 0), (5, 0), (5, 1), (3, 1), (4, 1)):
            less = told[at][:cell] + ((),) + told[at][cell + 1:]
            self.assertFalse(shows(LOOP, (3, 1, ()), bare(LOOP), told[:at] + [less] + told[at + 1:]), (at, cell))

    def test_a_name_less_where_nothing_needs_it(self):
        # Nothing behind the last row needs anything.
        told = paper(LOOP, (3, 1, ()), bare(LOOP))
        told[6] = ((), (), (), ())
        self.assertTrue(shows(LOOP, (3, 1, ()), bare(LOOP), told))
        # Name 2 is made anew ahead of each row that reads it.
        told = paper(LOOP, (3, 1, ()), bare(LOOP))
        told[5] = ((0,), (1,), (), ())
        told[4] = ((0,), (1,), (), ())
        told[3] = ((0,), (1,), (), ())
        self.assertTrue(shows(LOOP, (3, 1, ()), bare(LOOP), told))

    def test_the_last_slot(self):
        program = (1, 1, (SAY_0, SAY_0))
        choice = ((("slot", 1),), (((("load", 0, 1),), (0,), ()), ((("load", 1, 1),), (1,), ())))
        frame = (2, 2, ())
        told = paper(program, frame, choice)
        self.assertEqual(told, [((), (), (), (0,)), ((0,), (), (), (0,))])
        self.assertTrue(shows(program, frame, choice, told))
        self.assertTrue(shows(program, frame, choice, [told[0], told[0]]))
        self.assertFalse(shows(program, frame, choice, [told[0], ((0,), (), (), ())]))
        self.assertFalse(shows(program, frame, choice, [told[1], told[1]]))
        self.assertFalse(shows(program, frame, choice, [((), (), (), ()), told[1]]))

    def test_a_part_left_out(self):
        told = paper(LOOP, FRAME, bare(LOOP))
        for at in range(len(told)):
            self.assertFalse(shows(LOOP, FRAME, bare(LOOP), told[:at] + [None] + told[at + 1:]), at)

    def test_parts_exchanged(self):
        told = paper(LOOP, FRAME, bare(LOOP))
        self.assertFalse(shows(LOOP, FRAME, bare(LOOP), [told[1], told[0]] + told[2:]))
        self.assertFalse(shows(LOOP, FRAME, bare(LOOP), [told[0], told[2], told[1]] + told[3:]))

    def test_papers_that_tell_nothing(self):
        self.assertFalse(shows(LOOP, FRAME, bare(LOOP), [None] * 7))
        self.assertFalse(shows(LOOP, FRAME, bare(LOOP), empty_paper(LOOP, FRAME)))
        silent = (1, 2, (("put", 1, 2), ("go", 0), ("end",)))
        self.assertTrue(shows(silent, FRAME, bare(silent), empty_paper(silent, FRAME)))
        self.assertFalse(shows(silent, FRAME, bare(silent), [None] * 3))

    def test_the_first_part_tells_no_more_than_lies_at_first(self):
        program = (1, 2, (("end",),))
        choice = ((("box", 0),), (((), (), ()),))
        for part, told in (((0,), ()), True), (((), ()), True), (((0, 1), ()), False), (((0,), (0,)), False), (
                ((1,), ()), False), (((), (0,)), False), (None, False):
            self.assertIs(shows(program, (2, 0, ()), choice, [part]), told, part)

    def test_a_row_to_which_no_way_leads_is_judged_where_its_part_is_told(self):
        program = (1, 1, (("end",), SAY_0, ("end",)))
        choice = ((("box", 0),), (((), (), ()), ((), (0,), ()), ((), (), ())))
        frame = (1, 0, ())
        self.assertTrue(shows(program, frame, choice, [((0,),), None, None]))
        self.assertTrue(shows(program, frame, choice, [((0,),), ((0,),), ((0,),)]))
        self.assertTrue(shows(program, frame, choice, [((0,),), ((0,),), ((),)]))
        self.assertFalse(shows(program, frame, choice, [((0,),), ((0,),), None]))
        self.assertFalse(shows(program, frame, choice, [((0,),), ((),), ((),)]))
        self.assertTrue(shows(program, frame, choice, [((0,),), None, ((0,),)]))

    def test_a_say_and_an_if_of_which_each_must_be_the_same(self):
        for row in (SAY_0, ("if", 0, 0)):
            program = (1, 1, (row,))
            for box, told in ((0, True), (1, False)):
                choice = ((("box", 0),), (((), (box,), ()),))
                self.assertIs(shows(program, (2, 0, ()), choice, [((0,), ())]), told)

    def test_rows_that_make_need_not_be_the_same(self):
        program = (1, 2, (("call", 1, 0), SAY_0))
        choice = ((("box", 0),), (((), (1, 1), ()), ((), (0,), ())))
        self.assertTrue(shows(program, (2, 0, ()), choice, [((0,), ()), ((0,), ())]))
        self.assertFalse(shows(program, (2, 0, ()), choice, [((0,), ()), ((0,), (1,))]))

    def test_both_rows_behind_an_if(self):
        program = (1, 1, (("if", 0, 2), SAY_0, SAY_0))
        choice = ((("box", 0),), (((), (0,), ()),) * 3)
        good = ((0,), ())
        more = ((0,), (0,))
        self.assertTrue(shows(program, (2, 0, ()), choice, [good, good, good]))
        self.assertFalse(shows(program, (2, 0, ()), choice, [good, more, good]))
        self.assertFalse(shows(program, (2, 0, ()), choice, [good, good, more]))
        self.assertFalse(shows(program, (2, 0, ()), choice, [good, None, good]))

    def test_copy_just_by_what_the_part_tells(self):
        # A part may tell what no marks could; each pair of a box and a name goes its own way.
        program = (2, 3, (("end",), ("copy", 2, 0), ("end",)))
        choice = ((("box", 0), ("box", 1)), (((), (), ()), ((), (2, 1), ()), ((), (), ())))
        frame = (3, 0, ())
        odd = ((0, 1), (1, 2), ())
        self.assertTrue(shows(program, frame, choice, [((), (), ()), odd, ((0, 1, 2), (1,), (1,))]))
        for more in (((0, 1, 2), (1, 2), (1,)), ((0, 1, 2), (1,), (1, 2)), ((0, 1, 2), (0, 1), (1,))):
            self.assertFalse(shows(program, frame, choice, [((), (), ()), odd, more]))

    def test_eaten_boxes(self):
        program = (1, 2, (("call", 1, 0), ("end",)))
        choice = ((("box", 0),), (((("copy", 2, 0),), (1, 0), ()), ((), (), ())))
        first = ((0,), (), ())
        self.assertTrue(shows(program, (3, 0, (0, 1)), choice, [first, ((), (1,), (0,))]))
        self.assertFalse(shows(program, (3, 0, (0, 1)), choice, [first, ((0,), (1,), (0,))]))
        self.assertTrue(shows(program, (3, 0, ()), choice, [first, ((0,), (1,), (0,))]))


class Refused(unittest.TestCase):
    def refused(self, told, row):
        with self.subTest(told=told), self.assertRaises(BadPaper) as caught:
            shows(LOOP, FRAME, bare(LOOP), told)
        self.assertEqual(caught.exception.row, row)

    def test_one_too_many(self):
        told = paper(LOOP, FRAME, bare(LOOP))
        self.refused(told + [None], 7)
        self.refused(told + [None, None], 7)
        self.refused(told + [5], 7)

    def test_some_that_lack(self):
        told = paper(LOOP, FRAME, bare(LOOP))
        for many in range(7):
            self.refused(told[:many], many)

    def test_parts_that_can_not_be(self):
        told = paper(LOOP, FRAME, bare(LOOP))
        for at in (0, 3, 6):
            part = told[at]
            bad = [True, False, 5, "part", (), [], list(part), part[:-1], part + ((),)]
            for held in (None, 0, "0", True, [], [0], (3,), (-1,), (True,), (False,), (0, True), (None,), ("0",),
                         ((0,),), (0, 0), (1, 0), (0, 2, 1), (0, 3), (10 ** 19,)):
                bad += [(held,) + part[1:], part[:-1] + (held,)]
            for wrong in bad:
                self.refused(told[:at] + [wrong] + told[at + 1:], at)

    def test_the_first_of_several(self):
        told = paper(LOOP, FRAME, bare(LOOP))
        self.refused(told[:2] + [5] + told[3:5] + [6, None], 2)
        self.refused(told[:2] + [5] + told[3:] + [None], 2)
        self.refused(told[:2] + [5], 2)

    def test_a_part_is_refused_ahead_of_what_it_would_show(self):
        self.refused([None] * 6 + [5], 6)

    def test_what_is_no_list(self):
        told = paper(LOOP, FRAME, bare(LOOP))
        for wrong in (None, tuple(told), "paper", 5, True):
            self.refused(wrong, 0)


if __name__ == "__main__":
    unittest.main()
