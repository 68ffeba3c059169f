"""Frames and choices: which are refused (point 4)."""

import unittest

from samples import ALL_KINDS, FRAME, LOOP, bare, refuses_choice, refuses_frame, takes_choice, with_group

NO_BOXES = (True, False, None, "0", (0,), [0], -1, 4, 10 ** 19)
NO_SLOTS = (True, False, None, "0", (0,), [0], -1, 2, 10 ** 19)
MOVES = (("copy", 3, 0), ("swap", 0, 3), ("store", 1, 3), ("load", 3, 1), ("copy", 2, 2), ("swap", 1, 1))


class Frames(unittest.TestCase):
    def test_at_their_bounds(self):
        one = (0, 1, (("say", 0),))
        for frame in ((1, 0, ()), (6, 8, ()), (1, 0, (0,)), (6, 8, (0, 1, 2, 3, 4, 5)), (6, 0, (0, 5)), (2, 3, (1,))):
            takes_choice(one, frame, bare(one))

    def test_what_is_no_frame(self):
        for frame in (None, True, 5, "frame", (), [4, 2, ()], (4, 2), (4, 2, (), 0)):
            refuses_frame(self, LOOP, frame)

    def test_boxes_and_slots_beyond_their_bounds(self):
        for boxes in (0, 7, -1, True, False, None, "4", (4,), [4], 10 ** 19):
            refuses_frame(self, LOOP, (boxes, 2, ()))
        for slots in (9, -1, True, False, None, "2", (2,), [2], 10 ** 19):
            refuses_frame(self, LOOP, (4, slots, ()))

    def test_eaten_that_can_not_be(self):
        bad = (
            None, 0, "0", True, [], [0], (4,), (-1,), (0, 4), (True,), (False,), (0, True), (None,), ("0",), ((0,),),
            (0, 0), (1, 0), (0, 2, 1), (0, 1, 1), (2, 3, 0), (10 ** 19,),
        )
        for eaten in bad:
            refuses_frame(self, LOOP, (4, 2, eaten))


class Places(unittest.TestCase):
    def test_at_their_bounds(self):
        groups = bare(ALL_KINDS)[1]
        for places in ((("box", 3), ("box", 0)), (("slot", 1), ("slot", 0)), (("box", 1), ("slot", 1))):
            takes_choice(ALL_KINDS, FRAME, (places, groups))

    def test_a_place_for_each_param(self):
        groups = bare(ALL_KINDS)[1]
        for places in ((), (("box", 0),), (("box", 0), ("box", 1), ("box", 2))):
            refuses_choice(self, ALL_KINDS, FRAME, (places, groups), -1)

    def test_an_own_place_for_each_param(self):
        groups = bare(ALL_KINDS)[1]
        for place in (("box", 1), ("slot", 0)):
            refuses_choice(self, ALL_KINDS, FRAME, ((place, place), groups), -1)

    def test_places_that_can_not_be(self):
        groups = bare(ALL_KINDS)[1]
        bad = (
            ("box", 4), ("box", -1), ("slot", 2), ("slot", -1), ("box", True), ("slot", False), ("box", None),
            ("box", "0"), ("box", (0,)), ("sloe", 0), (None, 0), (["box"], 0), (("box",), 0), ("box",), ("box", 0, 0),
            ["box", 0], "box", (), None, 0, True, ("box", [0]), ("box", 10 ** 19),
        )
        for place in bad:
            refuses_choice(self, ALL_KINDS, FRAME, ((place, ("box", 1)), groups), -1)
            refuses_choice(self, ALL_KINDS, FRAME, ((("slot", 1), place), groups), -1)

    def test_no_slots(self):
        refuses_choice(self, LOOP, (3, 0, ()), ((("slot", 0),), bare(LOOP)[1]), -1)

    def test_places_that_are_no_tuple(self):
        groups = bare(LOOP)[1]
        for places in (None, [("box", 0)], "box 0", 5, True):
            refuses_choice(self, LOOP, FRAME, (places, groups), -1)


class Groups(unittest.TestCase):
    def test_what_is_no_choice(self):
        places, groups = bare(LOOP)
        for choice in (None, True, 5, "choice", (), [places, groups], (places,), (places, groups, ())):
            refuses_choice(self, LOOP, FRAME, choice, -1)

    def test_groups_that_are_no_tuple(self):
        places, groups = bare(LOOP)
        for wrong in (None, list(groups), "groups", 5, True):
            refuses_choice(self, LOOP, FRAME, (places, wrong), -1)

    def test_groups_that_can_not_be(self):
        for at in (0, 3, 6):
            ahead, boxes, behind = bare(LOOP)[1][at]
            bad = (
                None, True, 5, "group", (), [ahead, boxes, behind], (ahead, boxes), (ahead, boxes, behind, ()),
                ([], boxes, behind), (None, boxes, behind), (ahead, boxes, []), (ahead, boxes, None),
                (ahead, list(boxes), behind), (ahead, None, behind), (ahead, 0, behind), ("", boxes, behind),
            )
            for group in bad:
                refuses_choice(self, LOOP, FRAME, with_group(bare(LOOP), at, group), at)

    def test_a_box_for_each_name(self):
        choice = bare(ALL_KINDS)
        takes_choice(ALL_KINDS, FRAME, choice)
        for at, many in enumerate((1, 2, 3, 3, 3, 2, 1, 1, 0, 0)):
            takes_choice(ALL_KINDS, FRAME, with_group(choice, at, ((), (3,) * many, ())))
            refuses_choice(self, ALL_KINDS, FRAME, with_group(choice, at, ((), (3,) * (many + 1), ())), at)
            if many:
                refuses_choice(self, ALL_KINDS, FRAME, with_group(choice, at, ((), (3,) * (many - 1), ())), at)

    def test_boxes_that_can_not_be(self):
        choice = bare(ALL_KINDS)
        for at, group in enumerate(choice[1]):
            for which in range(len(group[1])):
                for box in NO_BOXES:
                    boxes = group[1][:which] + (box,) + group[1][which + 1:]
                    refuses_choice(self, ALL_KINDS, FRAME, with_group(choice, at, ((), boxes, ())), at)

    def test_six_moves_and_seven(self):
        choice = bare(LOOP)
        takes_choice(LOOP, FRAME, with_group(choice, 3, (MOVES, (0,), MOVES)))
        seven = MOVES + MOVES[:1]
        refuses_choice(self, LOOP, FRAME, with_group(choice, 3, (seven, (0,), ())), 3)
        refuses_choice(self, LOOP, FRAME, with_group(choice, 3, ((), (0,), seven)), 3)

    def test_moves_behind_a_go_an_if_and_an_end(self):
        choice = bare(ALL_KINDS)
        for at, row in enumerate(ALL_KINDS[2]):
            boxes = choice[1][at][1]
            takes_choice(ALL_KINDS, FRAME, with_group(choice, at, (MOVES, boxes, ())))
            behind = with_group(choice, at, ((), boxes, MOVES[:1]))
            if row[0] in ("go", "if", "end"):
                refuses_choice(self, ALL_KINDS, FRAME, behind, at)
            else:
                takes_choice(ALL_KINDS, FRAME, behind)

    def test_moves_that_can_not_be(self):
        bad = [
            ("move", 0, 1), ("", 0, 1), (None, 0, 1), (["copy"], 0, 1), (("copy",), 0, 1), ("copy", 0), ("copy",),
            ("copy", 0, 1, 2), ["copy", 0, 1], "copy", (), None, 5, True, ("put", 0, 1), (0, 1, 2),
        ]
        bad += [("copy", box, 0) for box in NO_BOXES] + [("copy", 0, box) for box in NO_BOXES]
        bad += [("swap", box, 0) for box in NO_BOXES] + [("swap", 0, box) for box in NO_BOXES]
        bad += [("store", slot, 0) for slot in NO_SLOTS] + [("store", 0, box) for box in NO_BOXES]
        bad += [("load", box, 0) for box in NO_BOXES] + [("load", 0, slot) for slot in NO_SLOTS]
        choice = bare(LOOP)
        for move in bad:
            refuses_choice(self, LOOP, FRAME, with_group(choice, 4, ((move,), (0, 0, 1), ())), 4)
            refuses_choice(self, LOOP, FRAME, with_group(choice, 4, ((), (0, 0, 1), MOVES[:2] + (move,))), 4)

    def test_a_group_too_many(self):
        places, groups = bare(LOOP)
        for more in (groups[:1], groups[:2], (None,), (None, None)):
            refuses_choice(self, LOOP, FRAME, (places, groups + more), 7)

    def test_groups_that_lack(self):
        places, groups = bare(LOOP)
        for many in range(len(groups)):
            refuses_choice(self, LOOP, FRAME, (places, groups[:many]), many)

    def test_the_first_that_can_not_be(self):
        places, groups = bare(LOOP)
        twice = with_group(with_group((places, groups), 5, None), 2, None)
        refuses_choice(self, LOOP, FRAME, twice, 2)
        refuses_choice(self, LOOP, FRAME, (places, twice[1] + groups[:1]), 2)
        refuses_choice(self, LOOP, FRAME, (places, twice[1][:4]), 2)

    def test_a_bad_place_comes_ahead_of_a_bad_group(self):
        places, groups = bare(LOOP)
        for wrong in (with_group((places, groups), 0, None)[1], groups[:3], groups + groups[:1]):
            refuses_choice(self, LOOP, FRAME, ((("box", 4),), wrong), -1)
            refuses_choice(self, LOOP, FRAME, ((), wrong), -1)


if __name__ == "__main__":
    unittest.main()
