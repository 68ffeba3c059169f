"""The refusals, and the order in which they come (point 1 and the interface)."""

import copy
import unittest

from boxwitness import errors
from boxwitness.checking import checked
from boxwitness.errors import BadChoice, BadCount, BadFrame, BadGiven, BadPaper, BadProgram, BadText, NoRoom, TooMany
from boxwitness.keeping import Witness
from boxwitness.marks import walk
from boxwitness.mends import least, made, renumbered
from boxwitness.notes import read_choice, written, written_choice
from boxwitness.papers import paper, shows
from boxwitness.runs import run, run_boxes
from samples import FRAME, LOOP, bare, empty_paper, with_group

WITH_ROW = ("BadProgram", "BadChoice", "BadPaper", "BadText")
WITHOUT_ROW = ("BadFrame", "BadGiven", "BadCount", "NoRoom", "TooMany")


class Classes(unittest.TestCase):
    def test_any_refusal_is_under_value_error(self):
        self.assertEqual(errors.BoxError.__bases__, (ValueError,))

    def test_each_is_directly_under_box_error(self):
        for name in WITH_ROW + WITHOUT_ROW:
            self.assertEqual(getattr(errors, name).__bases__, (errors.BoxError,), name)

    def test_row_is_set_when_created(self):
        for name in WITH_ROW:
            self.assertEqual(getattr(errors, name)(7).row, 7, name)
            self.assertEqual(getattr(errors, name)(-1).row, -1, name)


BAD_PROGRAM = (1, 3, ())
BAD_FRAME = (0, 0, ())
BAD_CHOICE = ((), ())
BAD_GIVEN = (1000,)
BAD_FUEL = 1001
BAD_JUNK = [1000]
SHORT = (1, 1, (("say", 0),))


class Order(unittest.TestCase):
    def test_run(self):
        good = [LOOP, (3,), 10]
        bad = [BAD_PROGRAM, BAD_GIVEN, BAD_FUEL]
        self.refused_in_turn(run, good, bad, [BadProgram, BadGiven, BadCount])

    def test_run_boxes(self):
        good = [LOOP, FRAME, bare(LOOP), (3,), 10, [1]]
        bad = [BAD_PROGRAM, BAD_FRAME, BAD_CHOICE, BAD_GIVEN, BAD_FUEL, BAD_JUNK]
        kinds = [BadProgram, BadFrame, BadChoice, BadGiven, BadCount, BadGiven]
        self.refused_in_turn(run_boxes, good, bad, kinds)

    def test_walk(self):
        good = [LOOP, FRAME, bare(LOOP), [True]]
        bad = [BAD_PROGRAM, BAD_FRAME, BAD_CHOICE]
        self.refused_in_turn(walk, good, bad, [BadProgram, BadFrame, BadChoice])

    def test_paper(self):
        good = [LOOP, FRAME, bare(LOOP)]
        bad = [BAD_PROGRAM, BAD_FRAME, BAD_CHOICE]
        self.refused_in_turn(paper, good, bad, [BadProgram, BadFrame, BadChoice])

    def test_shows(self):
        good = [LOOP, FRAME, bare(LOOP), paper(LOOP, FRAME, bare(LOOP))]
        bad = [BAD_PROGRAM, BAD_FRAME, BAD_CHOICE, []]
        self.refused_in_turn(shows, good, bad, [BadProgram, BadFrame, BadChoice, BadPaper])

    def test_checked_witness_and_written_choice(self):
        good = [LOOP, FRAME, bare(LOOP)]
        bad = [BAD_PROGRAM, BAD_FRAME, BAD_CHOICE]
        for function in (checked, Witness, written_choice):
            self.refused_in_turn(function, good, bad, [BadProgram, BadFrame, BadChoice])

    def test_made(self):
        self.refused_in_turn(made, [SHORT, (3, 1, ())], [BAD_PROGRAM, BAD_FRAME], [BadProgram, BadFrame])

    def test_no_room_is_refused_last(self):
        self.refused_in_turn(made, [SHORT, (3, 1, ())], [BAD_PROGRAM, (2, 0, ())], [BadProgram, NoRoom])
        with self.assertRaises(BadFrame):
            made(SHORT, (2, 0, (2,)))

    def test_least(self):
        good = [SHORT, FRAME, bare(SHORT), 2]
        bad = [BAD_PROGRAM, BAD_FRAME, BAD_CHOICE, 3]
        self.refused_in_turn(least, good, bad, [BadProgram, BadFrame, BadChoice, BadCount])

    def test_too_many_is_refused_last(self):
        good = [LOOP, FRAME, bare(LOOP), 2]
        with self.assertRaises(TooMany):
            least(*good)
        for at, wrong, kind in ((1, BAD_FRAME, BadFrame), (2, BAD_CHOICE, BadChoice), (3, 3, BadCount), (3, -1, BadCount)):
            with self.assertRaises(kind):
                least(*good[:at], wrong, *good[at + 1:])

    def test_renumbered(self):
        good = [LOOP, FRAME, bare(LOOP), (3, 2, 1, 0)]
        bad = [BAD_PROGRAM, BAD_FRAME, BAD_CHOICE, (0, 0, 1, 2)]
        self.refused_in_turn(renumbered, good, bad, [BadProgram, BadFrame, BadChoice, BadCount])

    def test_written(self):
        self.refused_in_turn(written, [LOOP], [BAD_PROGRAM], [BadProgram])

    def test_read_choice(self):
        good = [SHORT, FRAME, "places box 0\n | 0 | "]
        bad = [BAD_PROGRAM, BAD_FRAME, "places box 0\n | 00 | "]
        self.refused_in_turn(read_choice, good, bad, [BadProgram, BadFrame, BadText])
        bad = [BAD_PROGRAM, BAD_FRAME, "places box 0\n | 9 | "]
        self.refused_in_turn(read_choice, good, bad, [BadProgram, BadFrame, BadChoice])

    def refused_in_turn(self, function, good, bad, kinds):
        """Whichever of the later ones are wrong too, the first wrong one is refused."""
        function(*good)
        for first in range(len(bad)):
            for later in range(first, len(bad)):
                handed = list(good)
                handed[first] = bad[first]
                handed[later] = bad[later]
                with self.subTest(first=first, later=later), self.assertRaises(errors.BoxError) as caught:
                    function(*handed)
                self.assertIs(caught.exception.__class__, kinds[first])
            handed = good[:first] + bad[first:] + good[len(bad):]
            with self.subTest(first=first), self.assertRaises(kinds[first]):
                function(*handed)


class HandedIn(unittest.TestCase):
    def test_lists_stay_as_they_were(self):
        junk = [5, 6, 7]
        ways = [False, False, True, True]
        told = paper(LOOP, FRAME, bare(LOOP))
        before = copy.deepcopy((junk, ways, told))
        run_boxes(LOOP, FRAME, bare(LOOP), (3,), 100, junk)
        walk(LOOP, FRAME, bare(LOOP), ways)
        shows(LOOP, FRAME, bare(LOOP), told)
        self.assertEqual((junk, ways, told), before)

    def test_lists_stay_as_they_were_where_they_are_refused(self):
        junk = [5, 1000, 7]
        with self.assertRaises(BadGiven):
            run_boxes(LOOP, FRAME, bare(LOOP), (3,), 100, junk)
        self.assertEqual(junk, [5, 1000, 7])
        told = empty_paper(LOOP, FRAME) + [None]
        before = copy.deepcopy(told)
        with self.assertRaises(BadPaper):
            shows(LOOP, FRAME, bare(LOOP), told)
        self.assertEqual(told, before)

    def test_a_refusal_changes_nothing(self):
        told = run(LOOP, (3,), 100)
        with self.assertRaises(BadCount):
            run(LOOP, (3,), -1)
        self.assertEqual(run(LOOP, (3,), 100), told)

    def test_asked_again_behind_refusals(self):
        bent = with_group(bare(LOOP), 3, ((), (3,), ()))
        asks = (
            (checked, (LOOP, FRAME, bent), (LOOP, FRAME, BAD_CHOICE)),
            (made, (SHORT, (3, 1, ())), (SHORT, (2, 1, ()))),
            (least, (SHORT, FRAME, ((("box", 1),), (((), (0,), ()),)), 1), (SHORT, FRAME, bare(SHORT), 3)),
            (renumbered, (LOOP, FRAME, bent, (3, 2, 1, 0)), (LOOP, FRAME, bent, (3, 2, 1, 1))),
            (written_choice, (LOOP, FRAME, bent), (LOOP, FRAME, BAD_CHOICE)),
            (read_choice, (SHORT, FRAME, "places box 0\n | 0 | "), (SHORT, FRAME, "places box 0\n | 0 |")),
        )
        for function, good, bad in asks:
            told = function(*good)
            with self.assertRaises(errors.BoxError):
                function(*bad)
            self.assertEqual(function(*good), told)

    def test_lists_inside_what_is_told_may_be_changed(self):
        bent = with_group(bare(LOOP), 3, ((), (3,), ()))
        for function, handed in ((checked, (LOOP, FRAME, bent)), (run, (LOOP, (3,), 100)),
                                 (Witness(LOOP, FRAME, bent).verdict, ())):
            told = function(*handed)
            before = copy.deepcopy(told)
            told[0].extend([5, 5])
            self.assertEqual(function(*handed), before)

    def test_nothing_handed_in_is_kept(self):
        program = (0, 1, (("say", 0), ("call", 0, 0), ("say", 0)))
        frame = (1, 0, (0,))
        choice = ((), (((), (0,), ()), ((), (0, 0), ()), ((), (0,), ())))
        junk = [5]
        told = run_boxes(program, frame, choice, (), 10, junk)
        self.assertEqual(told, ([5, 183], ("end",), 3))
        junk[0] = 6
        self.assertEqual(told, ([5, 183], ("end",), 3))
        self.assertEqual(run_boxes(program, frame, choice, (), 10, junk), ([6, 261], ("end",), 3))


if __name__ == "__main__":
    unittest.main()
