"""Point 2: what rows and an end are, by what `laid` lets by and refuses. The order of refusals."""

import unittest

from airtime.errors import AirError, BadEnd, BadFillers, BadRows
from airtime.laying import laid

FILLERS = (1, 5)
MANY = [(number, "clip", 1, None) for number in range(30)]
MOMENTS = [(number, "live", 1, number) for number in range(30)]


class RowsLetBy(unittest.TestCase):
    def let_by(self, rows, begin=0, end=900):
        try:
            laid(rows, FILLERS, begin, end)
        except AirError as refusal:
            self.fail(f"{rows} from {begin} to {end}: {refusal!r}")

    def test_no_rows(self):
        self.let_by([])

    def test_ids_at_their_bounds(self):
        self.let_by([(0, "clip", 1, None), (99, "live", 1, None)])

    def test_lengths_at_their_bounds(self):
        self.let_by([(1, "clip", 1, None), (2, "clip", 120, None), (3, "live", 1, None), (4, "live", 120, 0)])

    def test_moments_at_their_bounds(self):
        self.let_by([(1, "clip", 5, 0), (2, "clip", 5, 899)])
        self.let_by([(1, "clip", 5, 0)], 0, 1)
        self.let_by([(1, "clip", 5, 40), (2, "live", 5, 49)], 40, 50)

    def test_moments_one_greater_than_those_ahead(self):
        self.let_by([(1, "clip", 5, 7), (2, "clip", 5, 8), (3, "clip", 5, None), (4, "clip", 5, 9)])

    def test_thirty_rows(self):
        self.let_by(MANY)
        self.let_by(MOMENTS)

    def test_ends_at_their_bounds(self):
        self.let_by([], 0, 1)
        self.let_by([(1, "clip", 5, None)], 0, 1)
        self.let_by([], 0, 900)
        self.let_by([], 899, 900)

    def test_ids_that_do_not_rise(self):
        self.let_by([(9, "clip", 5, None), (3, "clip", 5, None), (7, "clip", 5, 6), (1, "clip", 5, None)])


class RowsRefused(unittest.TestCase):
    def refused(self, at, rows, begin=0, end=900):
        with self.subTest(rows=rows, begin=begin, end=end):
            with self.assertRaises(BadRows) as told:
                laid(rows, FILLERS, begin, end)
            self.assertEqual(told.exception.at, at)

    def second_refused(self, row):
        self.refused(1, [(50, "clip", 5, 3), row, (51, "clip", 5, None)])
        self.refused(0, [row])

    def test_ids_beyond_their_range(self):
        self.second_refused((-1, "clip", 5, None))
        self.second_refused((100, "clip", 5, None))
        self.second_refused((-1, "live", 5, 10))
        self.second_refused((100, "live", 5, 10))

    def test_ids_that_are_no_numbers(self):
        self.second_refused(("1", "clip", 5, None))
        self.second_refused((None, "clip", 5, None))
        self.second_refused((True, "clip", 5, None))

    def test_kinds_that_are_none(self):
        for kind in ("", "Clip", "clips", "LIVE", "clip ", "fill", "liv", 1, None):
            self.second_refused((1, kind, 5, None))
            self.second_refused((1, kind, 5, 20))

    def test_lengths_beyond_their_range(self):
        for length in (-1, 0, 121, 500):
            self.second_refused((1, "clip", length, None))
            self.second_refused((1, "live", length, 20))

    def test_lengths_that_are_no_numbers(self):
        for length in ("5", "", None, True):
            self.second_refused((1, "clip", length, None))

    def test_moments_that_are_no_numbers(self):
        for moment in ("20", "", "None", True):
            self.refused(0, [(1, "clip", 5, moment)])

    def test_no_rows_at_all(self):
        self.second_refused(())
        self.second_refused((1,))
        self.second_refused((1, "clip", 5))
        self.second_refused((1, "clip", 5, None, None))
        self.second_refused((1, "clip", 5, 20, 0))
        self.second_refused(("clip", 1, 5, None))
        self.second_refused((None, None, None, None))

    def test_an_id_told_twice(self):
        self.refused(1, [(1, "clip", 5, None), (1, "clip", 5, None)])
        self.refused(2, [(1, "clip", 5, None), (2, "live", 6, 4), (1, "live", 7, 9), (2, "clip", 5, None)])
        self.refused(2, [(1, "clip", 5, 4), (2, "live", 6, 5), (2, "clip", 5, None)])
        self.refused(1, [(0, "clip", 5, None), (0, "clip", 5, 9)])

    def test_a_moment_that_is_not_greater_than_those_ahead(self):
        self.refused(1, [(1, "clip", 5, 20), (2, "clip", 5, 20)])
        self.refused(1, [(1, "clip", 5, 20), (2, "clip", 5, 19)])
        self.refused(2, [(1, "clip", 5, 20), (2, "clip", 5, None), (3, "clip", 5, 20)])
        self.refused(3, [(1, "clip", 5, 10), (2, "clip", 5, 20), (3, "clip", 5, None), (4, "clip", 5, 15)])
        self.refused(1, [(1, "clip", 5, 0), (2, "clip", 5, 0)])

    def test_a_moment_less_than_the_begin(self):
        self.refused(0, [(1, "clip", 5, -1)])
        self.refused(0, [(1, "clip", 5, -1)], 0, 1)
        self.refused(0, [(1, "clip", 5, 39)], 40)
        self.refused(1, [(1, "clip", 5, None), (2, "clip", 5, 0), (3, "clip", 5, 40)], 40)

    def test_a_moment_that_is_not_less_than_the_end(self):
        self.refused(0, [(1, "clip", 5, 900)])
        self.refused(0, [(1, "clip", 5, 1)], 0, 1)
        self.refused(2, [(1, "clip", 5, 98), (2, "clip", 5, 99), (3, "clip", 5, 100)], 0, 100)
        self.refused(1, [(1, "clip", 5, None), (2, "clip", 5, 5000)], 0, 100)

    def test_a_thirty_first_row(self):
        self.refused(30, MANY + [(30, "clip", 1, None)])
        self.refused(30, MOMENTS + [(30, "clip", 1, 30)])
        self.refused(30, MANY + [(number, "clip", 1, None) for number in range(30, 40)])
        self.refused(30, MANY + [()])

    def test_the_first_of_several(self):
        self.refused(4, MANY[:4] + [(9, "tape", 1, None)] + MANY[4:] + [(30, "clip", 1, None)])
        self.refused(1, [(1, "clip", 5, 20), (2, "clip", 0, 30), (3, "clip", 5, 10), (1, "clip", 5, None)])
        self.refused(2, [(1, "clip", 5, 20), (2, "clip", 5, 30), (1, "clip", 5, None), (4, "clip", 5, 10)])
        self.refused(1, [(1, "clip", 5, 20), (2, "clip", 5, 10), (1, "clip", 5, None), ()])


class Ends(unittest.TestCase):
    def test_bad_ends(self):
        for end in (-900, -1, 0, 901, 1800):
            for begin in (0, 1):
                with self.subTest(begin=begin, end=end), self.assertRaises(BadEnd):
                    laid([], FILLERS, begin, end)

    def test_bad_begins(self):
        for begin, end in ((-1, 900), (900, 900), (901, 900), (1, 1), (5, 4), (-900, 1), (40, 40), (2000, 900)):
            with self.subTest(begin=begin, end=end), self.assertRaises(BadEnd):
                laid([], FILLERS, begin, end)


class Order(unittest.TestCase):
    """What is handed in first is refused first, but ends, and begins, ahead of rows."""

    ROWS = [(1, "clip", 5, None)]
    WRONG_ROWS = [(1, "clip", 5, None), (1, "clip", 0, None)]
    WRONG_FILLERS = (2, 1)

    def refused(self, refusal, *handed):
        with self.subTest(handed=handed), self.assertRaises(refusal):
            laid(*handed)

    def test_an_end_ahead_of_rows(self):
        self.refused(BadEnd, self.WRONG_ROWS, FILLERS, 0, 0)
        self.refused(BadEnd, self.WRONG_ROWS, FILLERS, 0, 901)

    def test_a_begin_ahead_of_rows(self):
        self.refused(BadEnd, self.WRONG_ROWS, FILLERS, -1, 900)
        self.refused(BadEnd, self.WRONG_ROWS, FILLERS, 900, 900)

    def test_rows_ahead_of_fillers(self):
        self.refused(BadRows, self.WRONG_ROWS, self.WRONG_FILLERS, 0, 900)

    def test_ends_and_begins_ahead_of_fillers(self):
        self.refused(BadEnd, self.ROWS, self.WRONG_FILLERS, 0, 901)
        self.refused(BadEnd, self.ROWS, self.WRONG_FILLERS, 10, 10)
        self.refused(BadEnd, self.WRONG_ROWS, self.WRONG_FILLERS, 10, 0)

    def test_fillers_behind_all(self):
        self.refused(BadFillers, self.ROWS, self.WRONG_FILLERS, 0, 900)

    def test_fillers_are_refused_where_nothing_is_to_be_filled(self):
        for fillers in ((), (2,), (1, 1), (1, 61), (1, 2, 3, 4, 5, 6, 7)):
            self.refused(BadFillers, [(1, "clip", 5, None)], fillers, 0, 5)
            self.refused(BadFillers, [], fillers, 0, 5)


if __name__ == "__main__":
    unittest.main()
