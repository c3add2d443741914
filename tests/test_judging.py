"""Point 10: logs, judged. Point 1 for `judged`; the order of its refusals."""

import copy
import unittest

from airtime.air import Air
from airtime.errors import AirError, BadEnd, BadFillers, BadLog, BadRows
from airtime.judging import judged

FIVES = (1, 5)


def fill(length):
    return ("fill", length)


def clip(number, length, moment=None):
    return (number, "clip", length, moment)


def live(number, length, moment=None):
    return (number, "live", length, moment)


ROWS = [clip(1, 4), live(2, 3), live(7, 5, 12), clip(3, 2), clip(4, 9, 20), clip(0, 6)]
END = 30
LOG = [
    (0, 4, 1), (4, 7, 2), (7, 12, fill(5)), (12, 17, 7), (17, 19, 3), (19, 20, fill(1)), (20, 29, 4),
    (29, 30, fill(1)),
]


class JudgedCase(unittest.TestCase):
    def let(self, log, rows=ROWS, fillers=FIVES, end=END):
        with self.subTest(log=log, end=end):
            self.assertIsNone(judged(rows, fillers, end, log))

    def first(self, number, log, rows=ROWS, fillers=FIVES, end=END):
        with self.subTest(log=log, end=end):
            self.assertEqual(judged(rows, fillers, end, log), number)

    def refused(self, at, log):
        with self.subTest(log=log[:5]):
            with self.assertRaises(BadLog) as caught:
                judged(ROWS, FIVES, END, log)
            self.assertEqual(caught.exception.at, at)


class Let(JudgedCase):
    def test_the_log_of_an_air_cut_off_anywhere(self):
        air = Air(ROWS, FIVES, END)
        air.go(END)
        self.assertEqual(air.log(), LOG)
        for many in range(len(LOG) + 1):
            self.let(LOG[:many])

    def test_the_log_of_an_air_where_rows_ran_over_and_were_ended(self):
        air = Air(ROWS, FIVES, END)
        air.go(5)
        air.longer(2)
        air.go(13)
        air.ended()
        air.go(END)
        log = air.log()
        self.assertEqual(log[:4], [(0, 4, 1), (4, 9, 2), (9, 10, fill(1)), (10, 11, fill(1))])
        self.assertIn((12, 13, 7), log)
        for many in range(len(log) + 1):
            self.let(log[:many])

    def test_no_entries(self):
        self.let([])
        self.let([], [], (1,), 1)

    def test_other_choices_than_those_of_an_air(self):
        self.let([(0, 1, fill(1)), (1, 3, 3), (3, 9, 0), (9, 10, fill(1)), (10, 11, fill(1)), (11, 12, 2)])
        self.let([(at, at + 1, fill(1)) for at in range(12)])
        self.let([(0, 6, 0), (6, 7, 2), (7, 11, 1), (11, 12, fill(5)), (12, 13, 7), (13, 15, 3)])

    def test_a_live_row_of_any_time(self):
        for stop in range(5, 13):
            self.let([(0, 4, 1), (4, stop, 2)])
        self.let([(0, 12, 2), (12, 20, 7), (20, 29, 4)])
        self.let([(0, 900, 2)], [live(2, 1)], FIVES, 900)

    def test_cut_by_a_moment(self):
        self.let([(0, 4, 1), (4, 9, fill(5)), (9, 12, fill(5))])
        self.let([(0, 5, fill(5)), (5, 10, fill(5)), (10, 12, 1)])
        self.let([(0, 3, 7), (3, 12, 8)], [clip(7, 9, 0), clip(8, 9, 3)])

    def test_cut_by_the_end(self):
        self.let([(0, 6, 0), (6, 8, 1)], ROWS[:2] + [clip(0, 6)], FIVES, 8)
        self.let([(0, 6, 0), (6, 8, fill(5))], [clip(0, 6)], FIVES, 8)
        self.let([(0, 6, 0), (6, 8, 2)], [clip(0, 6), live(2, 1)], FIVES, 8)

    def test_bounds(self):
        self.let([(0, 899, 2), (899, 900, fill(60))], [live(2, 1)], (1, 60), 900)
        self.let([(0, 1, 99)], [clip(99, 120)], (1,), 1)


class CanNotBe(JudgedCase):
    """Each sentence of the point, broken alone."""

    def test_the_first_is_not_from_0(self):
        self.first(0, [(1, 5, 1)])
        self.first(0, [(5, 10, fill(5))])
        self.first(0, LOG[1:])

    def test_one_is_not_from_where_the_one_ahead_is_over(self):
        self.first(1, [(0, 4, 1), (5, 7, 2)])
        self.first(1, [(0, 4, 1), (3, 7, 2)])
        self.first(1, [(0, 4, 1), (0, 7, 2)])
        self.first(3, LOG[:3] + LOG[4:])

    def test_to_is_not_later_than_from(self):
        self.first(1, [(0, 4, 1), (4, 4, 2)])
        self.first(1, [(0, 4, 1), (4, 3, 2)])
        self.first(0, [(0, 0, 2)])
        self.first(0, [(0, 0, fill(1))])
        self.first(3, LOG[:3] + [(12, 12, 7)])

    def test_past_the_end(self):
        self.first(7, LOG[:7] + [(29, 31, fill(5))])
        self.first(0, [(0, 9, 2)], [live(2, 9)], FIVES, 8)
        self.first(8, LOG + [(30, 31, fill(1))])

    def test_a_filler_of_a_length_that_there_is_not(self):
        self.first(1, [(0, 4, 1), (4, 6, fill(2))])
        self.first(2, [(0, 4, 1), (4, 7, 2), (7, 12, fill(6))])
        self.first(1, [(0, 4, 1), (4, 9, fill(5))], ROWS, (1, 4))

    def test_a_row_that_is_none(self):
        self.first(1, [(0, 4, 1), (4, 7, 5)])
        self.first(0, [(0, 1, 2)], [])
        self.first(0, [(0, 1, 99)])

    def test_a_row_that_is_ahead(self):
        self.first(1, [(0, 4, 1), (4, 8, 1)])
        self.first(2, [(0, 3, 2), (3, 7, 1), (7, 10, 2)])
        self.first(4, LOG[:4] + [(17, 18, 2)])

    def test_a_row_with_a_moment_that_does_not_begin_then(self):
        self.first(1, [(0, 4, 1), (4, 9, 7)])
        self.first(0, [(0, 9, 4)])
        self.first(4, LOG[:3] + [(12, 13, 7), (13, 20, 4)])

    def test_another_one_at_a_moment(self):
        self.first(3, LOG[:3] + [(12, 17, fill(5))])
        self.first(3, LOG[:3] + [(12, 14, 3)])
        self.first(0, [(0, 4, 1)], [clip(7, 3, 0), clip(1, 4)])
        self.first(3, LOG[:3] + [(12, 13, 4)])

    def test_a_time_over_a_moment(self):
        self.first(1, [(0, 4, 1), (4, 13, 2)])
        self.first(2, LOG[:2] + [(7, 13, 0)])
        self.first(1, [(0, 11, 2), (11, 13, 3)])
        self.first(0, [(0, 5, fill(5))], [clip(7, 3, 4)])
        self.first(3, LOG[:3] + [(12, 21, 7)])
        self.first(0, [(0, 2, 7)], [live(7, 3, 0), live(8, 3, 1)])

    def test_a_clip_longer_than_it_is(self):
        self.first(0, [(0, 5, 1)])
        self.first(0, [(0, 12, 1)])
        self.first(0, [(0, 30, 1)], [clip(1, 4)])
        self.first(6, LOG[:6] + [(20, 30, 4)])

    def test_a_clip_shorter_than_it_is(self):
        self.first(0, [(0, 3, 1)])
        self.first(4, LOG[:4] + [(17, 18, 3)])
        self.first(6, LOG[:6] + [(20, 28, 4)])

    def test_a_filler_longer_than_it_is(self):
        self.first(0, [(0, 6, fill(5))])
        self.first(0, [(0, 12, fill(5))])
        self.first(0, [(0, 2, fill(1))])
        self.first(2, LOG[:2] + [(7, 9, fill(1))])

    def test_a_filler_shorter_than_it_is(self):
        self.first(0, [(0, 4, fill(5))])
        self.first(2, LOG[:2] + [(7, 11, fill(5))])

    def test_the_first_of_several(self):
        self.first(1, [(0, 4, 1), (4, 4, 5), (9, 9, 1)])
        self.first(0, [(3, 2, 98), (4, 3, fill(60))])

    def test_all_that_can_not_be_behind_the_end(self):
        self.first(30, [(at, at + 1, fill(1)) for at in range(100)], [])

    def test_two_thousand_entries(self):
        self.first(900, [(min(at, 899), min(at, 899) + 1, fill(1)) for at in range(2000)], [], FIVES, 900)


class Refused(JudgedCase):
    def one_refused(self, entry):
        self.refused(0, [entry])
        self.refused(2, LOG[:2] + [entry] + LOG[2:])

    def test_fields_one_beyond_their_ranges(self):
        for entry in (
            (-1, 4, 1), (901, 4, 1), (0, -1, 1), (0, 901, 1), (0, 4, -1), (0, 4, 100),
            (0, 4, fill(0)), (0, 4, fill(61)), (0, 4, fill(-1)), (901, 901, 1),
        ):
            self.one_refused(entry)

    def test_fields_at_their_bounds_are_entries(self):
        for entry in (
            (0, 900, 1), (900, 900, 1), (900, 0, 1), (0, 0, 1), (0, 3, 0), (0, 3, 99), (0, 3, fill(1)),
            (0, 3, fill(60)),
        ):
            self.first(0, [entry])

    def test_entries_that_are_none(self):
        for entry in (
            (), (0,), (0, 4), (0, 4, 1, 1), (0, 4, "fill", 5), ("0", 4, 1), (0, "4", 1), (0, 4, "1"), (0, 4, ""),
            (0, 4, "fill"), (0, 4, ()), (0, 4, ("fill",)), (0, 4, ("fill", 5, 5)), (0, 4, (5, "fill")),
            (0, 4, ("Fill", 5)), (0, 4, ("clip", 5)), (0, 4, ("fill", "5")), (0, 4, (1,)), (0, 4, (1, 4)),
            (0, 4, (("fill", 5),)), (0, 4, ("fill", (5,))), ((0,), 4, 1), (0, (4,), 1), ("", "", ""), (1, 0, (0, 4)),
        ):
            self.one_refused(entry)

    def test_entries_that_are_no_tuples(self):
        for entry in (5, 0, "", "0 4 1", "abc"):
            self.one_refused(entry)

    def test_two_wrong_ones(self):
        self.refused(1, [(0, 4, 1), (4, 7, 100), (7, 12, fill(61))])
        self.refused(1, [(0, 4, 1), (4, 7, fill(61)), (7, 12, 100)])

    def test_the_first_that_can_not_be_and_a_later_one_that_is_none(self):
        self.refused(2, [(0, 5, 1), (5, 5, 2), (5, 901, 3)])
        self.refused(7, [(3, 2, 98)] + LOG[1:7] + [()])

    def test_two_thousand_entries_and_one_more(self):
        many = [(at % 900, at % 900 + 1, fill(1)) for at in range(2001)]
        self.refused(2000, many)
        self.refused(2000, many + [()])
        self.refused(2000, many[:2000] + [()])
        self.refused(1999, many[:1999] + [(), ()])
        self.refused(3, many[:3] + [(0, 901, 1)] + many[3:])
        self.first(12, many[:2000])


class Order(unittest.TestCase):
    WRONG_LOG = [()]

    def refused(self, refusal, *handed):
        with self.subTest(handed=handed), self.assertRaises(AirError) as caught:
            judged(*handed)
        self.assertIs(type(caught.exception), refusal)

    def test_ends_ahead_of_all(self):
        for end in (-1, 0, 901):
            self.refused(BadEnd, [clip(100, 5)], (), end, self.WRONG_LOG)
            self.refused(BadEnd, ROWS, FIVES, end, LOG)
        self.refused(BadRows, ROWS, FIVES, 1, LOG)

    def test_rows_ahead_of_fillers_and_logs(self):
        self.refused(BadRows, [clip(100, 5)], (), END, self.WRONG_LOG)
        self.refused(BadRows, ROWS + [clip(1, 5)], FIVES, END, LOG)

    def test_fillers_ahead_of_logs(self):
        for fillers in ((), (2,), (1, 1), (1, 61), (1, 2, 3, 4, 5, 6, 7)):
            self.refused(BadFillers, ROWS, fillers, END, self.WRONG_LOG)
            self.refused(BadFillers, ROWS, fillers, END, LOG)
            self.refused(BadFillers, ROWS, fillers, END, [])

    def test_a_row_is_told_by_at(self):
        with self.assertRaises(BadRows) as caught:
            judged(ROWS + [clip(1, 5)], FIVES, END, LOG)
        self.assertEqual(caught.exception.at, len(ROWS))


class Handed(unittest.TestCase):
    """Point 1."""

    def test_what_is_handed_in_is_not_changed(self):
        rows = list(ROWS)
        for log in (LOG, LOG[1:], LOG[:3] + [(3, 3, 3)], LOG + [()]):
            same = copy.deepcopy(log)
            try:
                judged(rows, FIVES, END, same)
            except BadLog:
                pass
            self.assertEqual((rows, same), (ROWS, log))

    def test_what_is_handed_in_may_be_changed_later(self):
        log = list(LOG)
        self.assertIsNone(judged(ROWS, FIVES, END, log))
        log[3] = (12, 14, 3)
        self.assertEqual(judged(ROWS, FIVES, END, log), 3)
        self.assertIsNone(judged(ROWS, FIVES, END, LOG))

    def test_the_same_is_told_again(self):
        for _ in range(2):
            self.assertEqual(judged(ROWS, FIVES, END, LOG[:2] + LOG), 2)
            with self.assertRaises(BadLog):
                judged(ROWS, FIVES, END, LOG + [()])

    def test_a_number_is_told(self):
        self.assertIs(type(judged(ROWS, FIVES, END, [(1, 2, 3)])), int)
        self.assertIs(type(judged(ROWS, FIVES, END, [LOG[0], (1, 2, 3)])), int)
        self.assertEqual(judged.__module__, "airtime.judging")


if __name__ == "__main__":
    unittest.main()
