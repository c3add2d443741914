"""Point 11: rows as texts. Point 1 for `written` and `read`."""

import random
import unittest

from airtime.errors import BadRows, BadText
from airtime.notes import read, written

ROWS = [(1, "clip", 30, None), (20, "live", 120, 0), (0, "clip", 1, None), (99, "live", 7, 899)]
TEXT = "1 clip 30\n20 live 120 0\n0 clip 1\n99 live 7 899"


class Written(unittest.TestCase):
    def test_no_rows(self):
        self.assertEqual(written([]), "")

    def test_a_row(self):
        self.assertEqual(written([(1, "clip", 30, None)]), "1 clip 30")
        self.assertEqual(written([(1, "clip", 30, 45)]), "1 clip 30 45")
        self.assertEqual(written([(7, "live", 9, None)]), "7 live 9")

    def test_bounds(self):
        self.assertEqual(written([(0, "clip", 1, 0)]), "0 clip 1 0")
        self.assertEqual(written([(99, "live", 120, 899)]), "99 live 120 899")

    def test_several(self):
        self.assertEqual(written(ROWS), TEXT)

    def test_thirty(self):
        rows = [(number, "clip", 120, number * 30) for number in range(30)]
        self.assertEqual(written(rows).split("\n")[29], "29 clip 120 870")
        self.assertEqual(read(written(rows)), rows)

    def test_bad_rows(self):
        wrong = (
            (0, [(100, "clip", 5, None)]), (1, [ROWS[0], (2, "tape", 5, None)]), (1, [ROWS[0], (2, "clip", 0, None)]),
            (1, [ROWS[0], ROWS[0]]), (0, [(1, "clip", 5, 900)]), (0, [(1, "clip", 5, -1)]),
            (1, [(1, "clip", 5, 7), (2, "clip", 5, 7)]), (30, [(number, "clip", 5, None) for number in range(31)]),
        )
        for at, rows in wrong:
            with self.subTest(rows), self.assertRaises(BadRows) as caught:
                written(rows)
            self.assertEqual(caught.exception.at, at)


class Read(unittest.TestCase):
    def refused(self, line, text):
        with self.subTest(text), self.assertRaises(BadText) as caught:
            read(text)
        self.assertEqual(caught.exception.line, line)

    def line_refused(self, wrong):
        self.refused(0, wrong)
        self.refused(1, "1 clip 30\n" + wrong)
        self.refused(2, "1 clip 30\n2 live 5 7\n" + wrong + "\n3 clip 5")

    def test_the_empty_text(self):
        self.assertEqual(read(""), [])

    def test_several(self):
        self.assertEqual(read(TEXT), ROWS)

    def test_bounds(self):
        self.assertEqual(read("0 clip 1 0"), [(0, "clip", 1, 0)])
        self.assertEqual(read("99 live 120 899"), [(99, "live", 120, 899)])
        self.assertEqual(read("10 live 100 100"), [(10, "live", 100, 100)])

    def test_what_is_written_is_read_as_the_same_rows(self):
        dice = random.Random(11)
        for _ in range(100):
            ids = dice.sample(range(100), dice.randint(0, 30))
            moments = iter(sorted(dice.sample(range(900), 30)))
            rows = [(number, dice.choice(("clip", "live")), dice.randint(1, 120),
                     next(moments) if dice.random() < 0.5 else None) for number in ids]
            with self.subTest(rows):
                self.assertEqual(read(written(rows)), rows)
                self.assertEqual(written(read(written(rows))), written(rows))

    def test_each_number_in_its_range(self):
        for number in range(100):
            self.assertEqual(read(f"{number} clip 5"), [(number, "clip", 5, None)])
        for number in range(1, 121):
            self.assertEqual(read(f"5 live {number}"), [(5, "live", number, None)])
        for number in range(900):
            self.assertEqual(read(f"5 live 8 {number}"), [(5, "live", 8, number)])

    def test_a_needless_0(self):
        for wrong in ("01 clip 5", "00 clip 5", "000 clip 5", "001 clip 5", "1 clip 05", "1 clip 005", "1 clip 012",
                      "1 clip 5 00", "1 clip 5 07", "1 clip 5 007", "1 clip 5 099", "1 clip 5 000"):
            self.line_refused(wrong)

    def test_four_figures(self):
        for wrong in ("1000 clip 5", "0001 clip 5", "1 clip 1000", "1 clip 0005", "1 clip 5 1000", "1 clip 5 0000"):
            self.line_refused(wrong)

    def test_beyond_a_range(self):
        for wrong in ("100 clip 5", "999 clip 5", "1 clip 0", "1 clip 121", "1 clip 999", "1 clip 5 900",
                      "1 clip 5 999"):
            self.line_refused(wrong)

    def test_blanks(self):
        for wrong in ("1  clip 5", "1 clip  5", "1 clip 5  7", "1 clip 5 ", "1 clip 5 7 ", " 1 clip 5", "1 clip 5  ",
                      " ", "  ", "   ", " 1 clip 5 7", "1 clip ", "1  clip"):
            self.line_refused(wrong)

    def test_an_empty_line(self):
        self.refused(0, "\n")
        self.refused(0, "\n1 clip 5")
        self.refused(1, "1 clip 5\n")
        self.refused(1, "1 clip 5\n\n2 clip 5")
        self.refused(2, "1 clip 5\n2 clip 5\n")
        self.refused(0, "\n\n")

    def test_words_left_out(self):
        for wrong in ("1", "clip", "1 clip", "clip 5", "1 5", "clip 5 7", "1 5 7"):
            self.line_refused(wrong)

    def test_words_too_many(self):
        for wrong in ("1 clip 5 7 9", "1 clip 5 7 clip", "1 clip 5 None", "1 clip 5 -", "1 clip 5 7 8 9",
                      "1 clip clip 5"):
            self.line_refused(wrong)

    def test_another_kind(self):
        for wrong in ("1 tape 5", "1 Clip 5", "1 CLIP 5", "1 LIVE 5 7", "1 Live 5", "1 clips 5", "1 cli 5", "1 fill 5",
                      "1 0 5", "1 clip, 5"):
            self.line_refused(wrong)

    def test_signs(self):
        for wrong in ("+1 clip 5", "-1 clip 5", "-0 clip 5", "1 clip +5", "1 clip -5", "1 clip 5 +7", "1 clip 5 -7",
                      "1 clip 5 -0", "1. clip 5", "1 clip 5.", "1_0 clip 5", "1 clip 1_0", "1 clip 5 1_0", "a clip 5",
                      "1 clip x", "1 clip 5 x", "0x1 clip 5", "1,clip,5", "1 clip 5;", "~", "1 clip 5 1e1"):
            self.line_refused(wrong)

    def test_the_first_of_several(self):
        self.refused(1, "1 clip 5\n01 clip 5\n\n1 tape 5")
        self.refused(0, "1 clip 5 900\n1 clip 5 900")

    def test_rows_are_read_by_their_form_alone(self):
        self.assertEqual(read("1 clip 5 9\n1 live 6 9"), [(1, "clip", 5, 9), (1, "live", 6, 9)])
        self.assertEqual(read("\n".join(["5 clip 5"] * 31)), [(5, "clip", 5, None)] * 31)


class HandedAndTold(unittest.TestCase):
    """Point 1."""

    def test_what_is_handed_in_is_not_changed(self):
        rows = list(ROWS)
        written(rows)
        self.assertEqual(rows, ROWS)
        with self.assertRaises(BadRows):
            written(rows + ROWS)
        self.assertEqual(rows, ROWS)

    def test_what_is_told_may_be_changed(self):
        rows = read(TEXT)
        rows.clear()
        self.assertEqual(read(TEXT), ROWS)
        nothing = read("")
        nothing.append(3)
        self.assertEqual(read(""), [])

    def test_the_same_is_told_again_behind_a_refusal(self):
        with self.assertRaises(BadText):
            read(TEXT + "\n")
        self.assertEqual(read(TEXT), ROWS)
        self.assertEqual(written(ROWS), TEXT)

    def test_kinds_of_what_is_told(self):
        self.assertIs(type(written([])), str)
        self.assertIs(type(read("")), list)
        self.assertEqual([type(row) for row in read(TEXT)], [tuple] * 4)
        self.assertEqual([type(part) for part in read(TEXT)[3]], [int, str, int, int])
        self.assertEqual({written.__module__, read.__module__}, {"airtime.notes"})


if __name__ == "__main__":
    unittest.main()
