"""A choice that is kept while its groups change (point 13)."""

import unittest

from boxwitness.checking import checked
from boxwitness.errors import BadChoice
from boxwitness.keeping import Witness
from boxwitness.papers import paper
from samples import ALL_KINDS, FRAME, LOOP, bare, with_group

SAY_ELSEWHERE = ((), (3,), ())
COPY_AND_SAY = ((("copy", 3, 0),), (3,), (("store", 1, 3),))


class Keeping(unittest.TestCase):
    def tells(self, witness, program, frame, choice):
        """The witness tells just what is told of the choice."""
        self.assertEqual(witness.choice(), choice)
        self.assertEqual(witness.paper(), paper(program, frame, choice))
        self.assertEqual(witness.verdict(), checked(program, frame, choice))

    def test_as_it_was_made(self):
        for program in (LOOP, ALL_KINDS):
            self.tells(Witness(program, FRAME, bare(program)), program, FRAME, bare(program))

    def test_answers_reckoned_by_hand(self):
        program = (1, 1, (("say", 0), ("say", 0)))
        witness = Witness(program, (2, 0, ()), ((("box", 0),), (((), (0,), ()),) * 2))
        self.assertEqual(witness.paper(), [((0,), ()), ((0,), ())])
        self.assertIsNone(witness.verdict())
        self.assertIsNone(witness.change(0, ((), (0,), (("swap", 0, 1),))))
        self.assertEqual(witness.choice(), ((("box", 0),), (((), (0,), (("swap", 0, 1),)), ((), (0,), ()))))
        self.assertEqual(witness.paper(), [((0,), ()), ((), (0,))])
        self.assertEqual(witness.verdict(), ([], 1))
        witness.change(1, ((), (1,), ()))
        self.assertIsNone(witness.verdict())
        witness.change(0, ((), (0,), ()))
        self.assertEqual(witness.paper(), [((0,), ()), ((0,), ())])
        self.assertEqual(witness.verdict(), ([], 1))

    def test_changes_one_behind_the_other(self):
        choice = bare(LOOP)
        witness = Witness(LOOP, FRAME, choice)
        for number, group in ((3, SAY_ELSEWHERE), (0, ((), (3,), ())), (3, COPY_AND_SAY), (0, ((), (1,), ())),
                              (6, ((("swap", 0, 1),), (), ())), (5, ((("swap", 0, 3),), (), ())), (3, SAY_ELSEWHERE)):
            self.assertIsNone(witness.change(number, group))
            choice = with_group(choice, number, group)
            self.tells(witness, LOOP, FRAME, choice)

    def test_a_change_may_be_seen_without_asking_between(self):
        witness = Witness(LOOP, FRAME, bare(LOOP))
        witness.verdict()
        witness.paper()
        witness.change(3, SAY_ELSEWHERE)
        witness.change(2, ((), (1,), ()))
        witness.change(3, COPY_AND_SAY)
        choice = with_group(with_group(bare(LOOP), 2, ((), (1,), ())), 3, COPY_AND_SAY)
        self.tells(witness, LOOP, FRAME, choice)

    def test_two_that_do_not_touch_each_other(self):
        choice = bare(LOOP)
        one = Witness(LOOP, FRAME, choice)
        other = Witness(LOOP, FRAME, choice)
        one.change(3, SAY_ELSEWHERE)
        self.tells(other, LOOP, FRAME, bare(LOOP))
        other.change(3, COPY_AND_SAY)
        self.tells(one, LOOP, FRAME, with_group(bare(LOOP), 3, SAY_ELSEWHERE))
        self.tells(other, LOOP, FRAME, with_group(bare(LOOP), 3, COPY_AND_SAY))
        third = Witness(LOOP, FRAME, one.choice())
        third.change(3, bare(LOOP)[1][3])
        self.tells(one, LOOP, FRAME, with_group(bare(LOOP), 3, SAY_ELSEWHERE))
        self.assertEqual(choice, bare(LOOP))

    def test_what_was_told_may_be_changed(self):
        choice = with_group(bare(LOOP), 3, SAY_ELSEWHERE)
        witness = Witness(LOOP, FRAME, choice)
        witness.paper().clear()
        told = witness.paper()
        told[0] = None
        witness.verdict()[0].append(True)
        self.tells(witness, LOOP, FRAME, choice)

    def test_what_was_told_does_not_change_along(self):
        witness = Witness(LOOP, FRAME, bare(LOOP))
        choice, told, verdict = witness.choice(), witness.paper(), witness.verdict()
        witness.change(0, ((), (3,), ()))
        self.assertEqual(choice, bare(LOOP))
        self.assertEqual(told, paper(LOOP, FRAME, bare(LOOP)))
        self.assertIsNone(verdict)


class Refused(unittest.TestCase):
    def refused(self, number, group):
        """The change is refused with the number, and changes nothing."""
        start = with_group(bare(ALL_KINDS), 6, SAY_ELSEWHERE)
        witness = Witness(ALL_KINDS, FRAME, start)
        with self.subTest(number=number, group=group), self.assertRaises(BadChoice) as caught:
            witness.change(number, group)
        self.assertEqual(caught.exception.row, number)
        self.assertEqual(witness.choice(), start)
        self.assertEqual(witness.paper(), paper(ALL_KINDS, FRAME, start))
        self.assertEqual(witness.verdict(), checked(ALL_KINDS, FRAME, start))

    def test_no_row(self):
        for number in (-1, 10, 11, 24, -10, 10 ** 19, True, False, None, "1", (1,)):
            # Groups that would do for the first, the second and the last row.
            for group in (((), (0,), ()), ((), (0, 0), ()), ((), (), ())):
                self.refused(number, group)
        Witness(ALL_KINDS, FRAME, bare(ALL_KINDS)).change(9, ((), (), ()))
        Witness(ALL_KINDS, FRAME, bare(ALL_KINDS)).change(0, ((), (0,), ()))

    def test_no_row_and_no_group(self):
        for number in (-1, 10, True):
            self.refused(number, None)

    def test_groups_that_can_not_be(self):
        for number, many in enumerate((1, 2, 3, 3, 3, 2, 1, 1, 0, 0)):
            boxes = (0,) * many
            bad = [
                None, True, 5, "group", (), [(), boxes, ()], ((), boxes), ((), boxes, (), ()), ([], boxes, ()),
                ((), list(boxes), ()), ((), boxes, []), ((), boxes + (0,), ()), ((), None, ()),
                ((("copy", 0, 4),), boxes, ()), ((("copy", 0, True),), boxes, ()), ((("load", 0, 2),), boxes, ()),
                ((("copy", 0, 1),) * 7, boxes, ()), ((), boxes, (("copy", 0, 1),) * 7),
                ((), boxes, (("store", 2, 0),)),
            ]
            if many:
                bad += [((), boxes[1:] + (one,), ()) for one in (4, -1, True, None, "0")] + [((), boxes[1:], ())]
            if ALL_KINDS[2][number][0] in ("go", "if", "end"):
                bad.append(((), boxes, (("copy", 0, 1),)))
            for group in bad:
                self.refused(number, group)

    def test_a_group_of_six_moves(self):
        witness = Witness(LOOP, FRAME, bare(LOOP))
        group = ((("swap", 0, 3),) * 6, (0,), (("swap", 0, 3),) * 6)
        witness.change(3, group)
        self.assertEqual(witness.choice()[1][3], group)


if __name__ == "__main__":
    unittest.main()
