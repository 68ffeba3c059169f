"""Programs: what each row does, and which are refused (point 2)."""

import unittest

from boxwitness.runs import run
from samples import ALL_KINDS, refuses_program, with_row

NO_NAMES = (True, False, None, "0", (0,), [0], -1, 4, 10 ** 19)
NO_NUMBERS = (True, False, None, "5", (5,), [5], -1, 1000, 10 ** 19)
NO_ROWS = (True, False, None, "1", (1,), [1], -1, 10, 10 ** 19)


def said(given, names, *rows):
    return run((len(given), names, rows), given, 1000)[0]


class Rows(unittest.TestCase):
    def test_put(self):
        self.assertEqual(said((7,), 2, ("put", 1, 0), ("put", 0, 999), ("say", 0), ("say", 1)), [999, 0])

    def test_copy(self):
        self.assertEqual(said((7, 8), 2, ("copy", 0, 1), ("say", 0), ("say", 1)), [8, 8])

    def test_copy_of_itself(self):
        self.assertEqual(said((7,), 1, ("copy", 0, 0), ("say", 0)), [7])

    def test_add(self):
        self.assertEqual(said((3, 4), 3, ("add", 2, 0, 1), ("say", 2)), [7])
        self.assertEqual(said((999, 1), 3, ("add", 2, 0, 1), ("say", 2)), [0])
        self.assertEqual(said((999,), 1, ("add", 0, 0, 0), ("say", 0)), [998])

    def test_take(self):
        self.assertEqual(said((7, 4), 3, ("take", 2, 0, 1), ("say", 2)), [3])
        self.assertEqual(said((4, 7), 3, ("take", 2, 0, 1), ("say", 2)), [997])
        self.assertEqual(said((0, 999), 3, ("take", 2, 0, 1), ("say", 2)), [1])

    def test_less(self):
        for one, other, told in ((3, 4, 1), (4, 4, 0), (5, 4, 0), (0, 999, 1)):
            self.assertEqual(said((one, other), 3, ("less", 2, 0, 1), ("say", 2)), [told])

    def test_call(self):
        for handed, told in ((0, 3), (1, 11), (2, 33), (999, 9), (12, 23)):
            self.assertEqual(said((handed,), 2, ("call", 1, 0), ("say", 1), ("say", 0)), [told, handed])

    def test_say(self):
        self.assertEqual(said((7,), 2, ("say", 0), ("say", 1), ("say", 0)), [7, 0, 7])

    def test_if(self):
        rows = (("if", 0, 2), ("say", 1), ("say", 2))
        self.assertEqual(said((0, 5, 6), 3, *rows), [5, 6])
        self.assertEqual(said((1, 5, 6), 3, *rows), [6])
        self.assertEqual(said((999, 5, 6), 3, *rows), [6])

    def test_go(self):
        self.assertEqual(said((5, 6), 2, ("go", 2), ("say", 0), ("say", 1)), [6])

    def test_go_back(self):
        rows = (("go", 3), ("say", 0), ("end",), ("say", 1), ("go", 1))
        self.assertEqual(said((5, 6), 2, *rows), [6, 5])

    def test_end(self):
        self.assertEqual(said((5,), 1, ("say", 0), ("end",), ("say", 0)), [5])

    def test_names_that_are_no_params_are_0_at_first(self):
        self.assertEqual(run((1, 3, (("say", 0), ("say", 1), ("say", 2))), (9,), 10)[0], [9, 0, 0])

    def test_the_last_row_is_done_and_ends(self):
        self.assertEqual(run((0, 1, (("put", 0, 4), ("say", 0))), (), 10), ([4], ("end",), 2))


class Bounds(unittest.TestCase):
    def test_one_row(self):
        self.assertEqual(run((0, 1, (("say", 0),)), (), 10), ([0], ("end",), 1))

    def test_24_rows(self):
        self.assertEqual(run((1, 1, (("say", 0),) * 24), (2,), 100), ([2] * 24, ("end",), 24))
        rows = (("go", 23),) + (("say", 0),) * 23
        self.assertEqual(run((1, 1, rows), (2,), 100), ([2], ("end",), 2))

    def test_names_and_params(self):
        self.assertEqual(run((8, 8, (("say", 7),)), (1, 2, 3, 4, 5, 6, 7, 8), 9)[0], [8])
        self.assertEqual(run((0, 8, (("say", 7),)), (), 9)[0], [0])

    def test_all_kinds(self):
        self.assertEqual(run(ALL_KINDS, (900, 7), 20), ([83, 83, 83, 83, 83], ("long",), 20))


class Refused(unittest.TestCase):
    def test_what_is_no_program(self):
        rows = (("say", 0),)
        for program in (None, True, 5, "program", (), [0, 1, rows], (0, 1), (0, 1, rows, 0), (rows,)):
            refuses_program(self, program, -1)

    def test_rows_that_are_none_or_no_tuple(self):
        for rows in ((), None, [("say", 0)], "say 0", 5, True):
            refuses_program(self, (0, 1, rows), -1)

    def test_names_out_of_bounds(self):
        for names in (0, 9, -1, True, None, "1", (1,), [1], 10 ** 19):
            refuses_program(self, (0, names, (("say", 0),)), -1)
        refuses_program(self, (0, False, (("end",),)), -1)

    def test_params_out_of_bounds(self):
        for params in (-1, 3, True, False, None, "1", (1,), [1], 10 ** 19):
            refuses_program(self, (params, 2, (("say", 0),)), -1)

    def test_the_head_is_refused_ahead_of_the_rows(self):
        refuses_program(self, (3, 2, (("say", 5),)), -1)
        refuses_program(self, (0, 0, (("say", 0),)), -1)

    def test_each_part_of_each_row(self):
        bad = {"name": NO_NAMES, "number": NO_NUMBERS, "row": NO_ROWS}
        kinds = {
            "put": ("name", "number"), "copy": ("name", "name"), "add": ("name",) * 3, "take": ("name",) * 3,
            "less": ("name",) * 3, "call": ("name", "name"), "say": ("name",), "if": ("name", "row"),
            "go": ("row",), "end": (),
        }
        for at, row in enumerate(ALL_KINDS[2]):
            for part, kind in enumerate(kinds[row[0]], start=1):
                for value in bad[kind]:
                    refuses_program(self, with_row(ALL_KINDS, at, row[:part] + (value,) + row[part + 1:]), at)

    def test_each_row_too_short_and_too_long(self):
        for at, row in enumerate(ALL_KINDS[2]):
            refuses_program(self, with_row(ALL_KINDS, at, row + (0,)), at)
            refuses_program(self, with_row(ALL_KINDS, at, row[:-1]), at)

    def test_words_and_kinds_at_the_first_a_middle_and_the_last_row(self):
        bad = (
            ("sat", 0), ("", 0), ("SAY", 0), (None, 0), (0, 0), (True, 0), (("say",), 0), (["say"], 0),
            ["say", 0], "say", "end", None, 5, True, (), [], ("name", 0),
        )
        for at in (0, 4, 9):
            for row in bad:
                refuses_program(self, with_row(ALL_KINDS, at, row), at)

    def test_bounds_of_names_numbers_and_rows(self):
        run((0, 2, (("put", 1, 999), ("if", 1, 2), ("go", 2))), (), 9)
        refuses_program(self, (0, 2, (("put", 1, 999), ("say", 2))), 1)
        refuses_program(self, (0, 2, (("put", 1, 1000), ("say", 1))), 0)
        refuses_program(self, (0, 2, (("put", 1, 999), ("go", 2))), 1)
        refuses_program(self, (0, 2, (("if", 1, 2), ("go", 0))), 0)

    def test_the_first_of_two_wrong_rows(self):
        twice = with_row(with_row(ALL_KINDS, 3, ("sat", 0)), 7, ("say", 9))
        refuses_program(self, twice, 3)

    def test_a_25th_row(self):
        refuses_program(self, (0, 1, (("say", 0),) * 25), 24)
        refuses_program(self, (0, 1, (("say", 0),) * 40), 24)
        refuses_program(self, (0, 1, (("say", 0),) * 24 + (("sat", 0), ("sat", 0))), 24)

    def test_a_wrong_row_and_a_25th(self):
        refuses_program(self, with_row((0, 1, (("say", 0),) * 25), 23, ("say", 1)), 23)

    def test_no_row_tells_row_24_among_too_many_rows(self):
        for many in (25, 26, 40):
            rows = (0, 1, (("say", 0),) * many)
            for told in (24, 25, 39, 40):
                refuses_program(self, with_row(rows, 1, ("go", told)), 1)
                refuses_program(self, with_row(rows, 23, ("if", 0, told)), 23)
                refuses_program(self, with_row(rows, 24, ("go", told)), 24)
            refuses_program(self, with_row(rows, 1, ("go", 23)), 24)
            refuses_program(self, with_row(rows, 1, ("if", 0, 23)), 24)


if __name__ == "__main__":
    unittest.main()
