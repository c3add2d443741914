"""Points 6 to 8: what is on air, what goes by, and what comes. Point 1 for `Air`; the order of its refusals."""

import copy
import unittest

from airtime.air import Air
from airtime.errors import (
    AirError, BadCount, BadEnd, BadFillers, BadPlace, BadRow, BadRows, BadSecond, NoRow, NotLive,
)
from airtime.laying import laid

ONES = (1,)
FIVES = (1, 5)


def fill(length):
    return ("fill", length)


def clip(number, length, moment=None):
    return (number, "clip", length, moment)


def live(number, length, moment=None):
    return (number, "live", length, moment)


# 1 and 2, a filler up to the moment of 7, 3 behind it, and fillers.
DAY = [clip(1, 4), live(2, 3), live(7, 5, 12), clip(3, 2)]
DAY_PLAN = [
    (0, 4, 1), (4, 7, 2), (7, 12, fill(5)), (12, 17, 7), (17, 19, 3),
    (19, 24, fill(5)), (24, 29, fill(5)), (29, 30, fill(1)),
]


def day(second=0):
    """An Air of the day, at a second."""
    air = Air(DAY, FIVES, 30)
    air.go(second)
    return air


def all_told(air):
    return air.on(), air.now(), air.plan(), air.left(), air.log()


class AirCase(unittest.TestCase):
    def refused(self, refusal, deed, *handed):
        """A deed is refused by just this refusal, and changes nothing."""
        air = deed.__self__
        told = all_told(air)
        with self.assertRaises(AirError) as caught:
            deed(*handed)
        self.assertIs(type(caught.exception), refusal)
        self.assertEqual(all_told(air), told)


class Made(AirCase):
    """Points 2, 3 and 6: what an Air is made of, and what it is then."""

    def test_second_0(self):
        air = Air(DAY, FIVES, 30)
        self.assertEqual(air.now(), 0)
        self.assertEqual(air.on(), (0, 4, 1))
        self.assertEqual(air.plan(), DAY_PLAN)
        self.assertEqual(air.left(), [])
        self.assertEqual(air.log(), [])

    def test_no_rows(self):
        air = Air([], FIVES, 7)
        self.assertEqual(air.on(), (0, 5, fill(5)))
        self.assertEqual(air.plan(), [(0, 5, fill(5)), (5, 6, fill(1)), (6, 7, fill(1))])
        self.assertEqual(air.left(), [])
        self.assertEqual(air.go(7), [(0, 5, fill(5)), (5, 6, fill(1)), (6, 7, fill(1))])

    def test_bounds(self):
        self.assertEqual(Air([], ONES, 1).plan(), [(0, 1, fill(1))])
        self.assertEqual(Air([clip(0, 120)], (1, 60), 900).on(), (0, 120, 0))
        self.assertEqual(Air([clip(99, 1, 899)], (1, 60), 900).plan()[-1], (899, 900, 99))
        self.assertEqual(len(Air([clip(number, 30) for number in range(30)], ONES, 900).plan()), 30)

    def test_the_plan_is_as_by_laid(self):
        rows = [clip(1, 9), clip(2, 2), clip(3, 3), clip(4, 4), clip(10, 3, 9), clip(5, 1), live(20, 50, 15)]
        for end in (16, 20, 70):
            with self.subTest(end=end):
                air = Air(rows, (1, 3, 4), end)
                self.assertEqual((air.plan(), air.left()), laid(rows, (1, 3, 4), 0, end))

    def test_bad_ends(self):
        for end in (-1, 0, 901):
            with self.subTest(end), self.assertRaises(BadEnd):
                Air([], FIVES, end)

    def test_bad_rows(self):
        wrong = (
            (0, [clip(100, 5)]), (1, [clip(1, 5), clip(2, 0)]), (1, [clip(1, 5), clip(1, 5)]),
            (1, [clip(1, 5, 9), clip(2, 5, 9)]), (0, [clip(1, 5, 30)]), (0, [clip(1, 5, -1)]),
            (30, [clip(number, 1) for number in range(31)]), (0, [(1, "tape", 5, None)]), (0, [(1, "clip", 5)]),
        )
        for at, rows in wrong:
            with self.subTest(rows), self.assertRaises(BadRows) as caught:
                Air(rows, FIVES, 30)
            self.assertEqual(caught.exception.at, at)

    def test_bad_fillers(self):
        for fillers in ((), (2,), (1, 1), (1, 61), (1, 2, 3, 4, 5, 6, 7)):
            with self.subTest(fillers), self.assertRaises(BadFillers):
                Air(DAY, fillers, 30)

    def test_the_order_of_refusals(self):
        for end in (0, 901):
            with self.assertRaises(BadEnd):
                Air([clip(100, 5)], (), end)
        with self.assertRaises(BadEnd):
            Air(DAY, (), 0)
        with self.assertRaises(BadRows):
            Air([clip(100, 5)], (), 30)


class On(AirCase):
    """Point 6."""

    def test_in_the_middle_of_a_row(self):
        self.assertEqual(day(1).on(), (0, 4, 1))
        self.assertEqual(day(3).on(), (0, 4, 1))
        self.assertEqual(day(14).on(), (12, 17, 7))

    def test_in_the_middle_of_a_filler(self):
        self.assertEqual(day(9).on(), (7, 12, fill(5)))
        self.assertEqual(day(29).on(), (29, 30, fill(1)))

    def test_where_one_is_over_the_next_is_on_air(self):
        self.assertEqual([day(second).on() for second in (4, 7, 12, 17, 19)], DAY_PLAN[1:6])

    def test_none_at_the_end(self):
        air = day(30)
        self.assertIsNone(air.on())
        self.assertEqual((air.now(), air.plan(), air.left(), air.log()), (30, [], [], DAY_PLAN))

    def test_cut_by_a_moment_that_waits(self):
        air = Air([clip(1, 120, 0), live(2, 5, 3)], FIVES, 30)
        self.assertEqual(air.on(), (0, 3, 1))
        air.go(3)
        self.assertEqual(air.on(), (3, 8, 2))

    def test_cut_by_the_end(self):
        air = Air([clip(1, 120, 0)], FIVES, 30)
        self.assertEqual(air.on(), (0, 30, 1))
        self.assertEqual(Air([live(1, 120, 29)], FIVES, 30).plan()[-1], (29, 30, 1))

    def test_a_row_goes_on_where_the_moment_that_cut_it_is_gone(self):
        for kind in ("clip", "live"):
            with self.subTest(kind):
                air = Air([(1, kind, 20, 0), clip(2, 5, 3)], FIVES, 30)
                air.go(2)
                self.assertEqual(air.on(), (0, 3, 1))
                self.assertEqual(air.remove(2), [(2, 3, None)])
                self.assertEqual(air.on(), (0, 20, 1))
                self.assertEqual(air.go(30)[0], (0, 20, 1))

    def test_a_filler_goes_on_where_the_moment_that_cut_it_is_gone(self):
        air = Air([], FIVES, 10)
        air.go(1)
        air.add(clip(3, 2, 4), 0)
        self.assertEqual(air.on(), (0, 4, fill(5)))
        self.assertEqual(air.plan()[1:3], [(4, 6, 3), (6, 7, fill(1))])
        air.remove(3)
        self.assertEqual(air.plan(), [(0, 5, fill(5)), (5, 10, fill(5))])

    def test_only_rows_that_wait_cut(self):
        air = Air([live(1, 4, 2), live(2, 9, 4)], ONES, 20)
        air.go(5)
        self.assertEqual(air.on(), (4, 13, 2))

    def test_a_live_row_longer_that_a_moment_cuts_goes_on_longer_again(self):
        air = Air([live(1, 4), clip(2, 3, 6), clip(3, 1)], FIVES, 40)
        air.go(1)
        self.assertEqual(air.longer(9), [])
        self.assertEqual(air.on(), (0, 6, 1))
        self.assertEqual(air.longer(2), [])
        self.assertEqual(air.on(), (0, 6, 1))
        self.assertEqual(air.remove(2), [(2, 6, None), (3, 9, 15)])
        self.assertEqual(air.on(), (0, 15, 1))
        self.assertEqual(air.add(clip(4, 3, 8), 1), [(3, 15, 11), (4, None, 8)])
        self.assertEqual(air.on(), (0, 8, 1))

    def test_what_is_planned_behind_a_longer_row_is_laid_anew(self):
        air = Air([live(1, 4), clip(2, 5), clip(3, 3), clip(7, 1, 12)], FIVES, 30)
        self.assertEqual(air.plan()[:3], [(0, 4, 1), (4, 9, 2), (9, 12, 3)])
        air.longer(1)
        self.assertEqual(air.plan()[:4], [(0, 5, 1), (5, 10, 2), (10, 11, fill(1)), (11, 12, fill(1))])
        self.assertEqual(air.plan()[4:6], [(12, 13, 7), (13, 16, 3)])


class Gone(AirCase):
    """Point 7."""

    def test_to_now_itself(self):
        for second in (0, 2, 4, 30):
            with self.subTest(second):
                air = day(second)
                told = all_told(air)
                self.assertEqual(air.go(second), [])
                self.assertEqual(all_told(air), told)

    def test_into_the_middle(self):
        air = day()
        self.assertEqual(air.go(3), [])
        self.assertEqual((air.now(), air.log(), air.plan()), (3, [], DAY_PLAN))
        self.assertEqual(air.go(5), [(0, 4, 1)])
        self.assertEqual((air.now(), air.log(), air.plan()), (5, DAY_PLAN[:1], DAY_PLAN[1:]))

    def test_to_just_the_end_of_it(self):
        air = day()
        self.assertEqual(air.go(4), [(0, 4, 1)])
        self.assertEqual((air.now(), air.log(), air.plan()), (4, DAY_PLAN[:1], DAY_PLAN[1:]))

    def test_over_several_at_once(self):
        air = day(2)
        self.assertEqual(air.go(18), DAY_PLAN[:4])
        self.assertEqual((air.now(), air.log(), air.plan()), (18, DAY_PLAN[:4], DAY_PLAN[4:]))

    def test_to_the_end(self):
        self.assertEqual(day().go(30), DAY_PLAN)
        air = day(26)
        self.assertEqual(air.go(30), DAY_PLAN[6:])
        self.assertEqual((air.on(), air.now(), air.plan(), air.log()), (None, 30, [], DAY_PLAN))

    def test_one_second_at_the_end(self):
        self.assertEqual(day(29).go(30), [(29, 30, fill(1))])

    def test_behind_now(self):
        self.refused(BadSecond, day(5).go, 4)
        self.refused(BadSecond, day(5).go, 0)
        self.refused(BadSecond, day().go, -1)
        self.refused(BadSecond, day(30).go, 29)

    def test_past_the_end(self):
        self.refused(BadSecond, day().go, 31)
        self.refused(BadSecond, day(5).go, 900)
        self.refused(BadSecond, day(30).go, 31)

    def test_the_log_grows_by_just_what_is_told(self):
        air = day()
        log = []
        for second in (0, 1, 4, 4, 12, 13, 24, 30, 30):
            log += air.go(second)
            self.assertEqual(air.log(), log)
        self.assertEqual(log, DAY_PLAN)

    def test_what_is_over_by_ended_is_not_told_again(self):
        air = day(5)
        air.ended()
        self.assertEqual(air.log(), [(0, 4, 1), (4, 5, 2)])
        self.assertEqual(air.go(5), [])
        self.assertEqual(air.go(10), [(5, 10, fill(5))])
        self.assertEqual(air.log(), [(0, 4, 1), (4, 5, 2), (5, 10, fill(5))])

    def test_left(self):
        air = Air([clip(8, 9), clip(2, 7), clip(4, 3)], (1, 6), 6)
        self.assertEqual(air.left(), [8, 2])
        air.go(5)
        self.assertEqual(air.left(), [8, 2])
        air.go(6)
        self.assertEqual(air.left(), [8, 2])

    def test_left_where_nothing_is_behind_what_is_on_air(self):
        air = Air([live(1, 6), clip(2, 3), clip(3, 2)], ONES, 8)
        self.assertEqual(air.left(), [2])
        air.longer(1)
        self.assertEqual((air.plan(), air.left()), ([(0, 7, 1), (7, 8, fill(1))], [2, 3]))
        air.longer(1)
        self.assertEqual((air.plan(), air.left()), ([(0, 8, 1)], [2, 3]))

    def test_rows_moved_come_behind_the_moment(self):
        air = Air([clip(1, 9), clip(2, 2), clip(10, 3, 5), clip(3, 1)], ONES, 40)
        air.go(7)
        self.assertEqual(air.plan()[:3], [(5, 8, 10), (8, 17, 1), (17, 18, 3)])


class Longer(AirCase):
    """Point 8."""

    def test_by_1(self):
        air = day(5)
        self.assertEqual(air.longer(1), [])
        self.assertEqual(air.plan()[:5], [(4, 8, 2)] + [(at, at + 1, fill(1)) for at in (8, 9, 10, 11)])

    def test_by_120(self):
        air = Air([live(1, 5), clip(2, 4)], (1, 60), 900)
        self.assertEqual(air.longer(120), [(2, 5, 125)])
        self.assertEqual(air.on(), (0, 125, 1))

    def test_more_than_once(self):
        air = Air([live(1, 5), clip(2, 4)], (1, 60), 900)
        self.assertEqual(air.longer(120), [(2, 5, 125)])
        self.assertEqual(air.longer(120), [(2, 125, 245)])
        air.go(200)
        self.assertEqual(air.longer(5), [(2, 245, 250)])
        self.assertEqual(air.go(260), [(0, 250, 1), (250, 254, 2)])

    def test_bad_counts(self):
        for count in (-1, 0, 121, 900):
            self.refused(BadCount, day(5).longer, count)

    def test_not_live(self):
        self.refused(NotLive, day(1).longer, 5)
        self.refused(NotLive, day(8).longer, 5)
        self.refused(NotLive, day(30).longer, 5)
        self.refused(NotLive, Air([live(1, 5, 29)], FIVES, 30).longer, 5)

    def test_not_live_at_the_end_behind_a_live_row(self):
        air = Air([live(1, 5, 28)], FIVES, 30)
        air.go(29)
        self.assertEqual(air.longer(3), [])
        air.go(30)
        self.refused(NotLive, air.longer, 1)
        self.refused(NotLive, air.ended)

    def test_not_live_ahead_of_a_bad_count(self):
        for second in (1, 8, 30):
            self.refused(NotLive, day(second).longer, 0)

    def test_at_the_latest_to_a_moment(self):
        air = day(5)
        self.assertEqual(air.longer(100), [])
        self.assertEqual(air.on(), (4, 12, 2))
        self.assertEqual(air.plan()[1:3], DAY_PLAN[3:5])

    def test_at_the_latest_to_the_end(self):
        air = day(14)
        self.assertEqual(air.longer(100), [(3, 17, None)])
        self.assertEqual((air.plan(), air.left()), ([(12, 30, 7)], [3]))

    def test_at_its_begin(self):
        air = day(4)
        self.assertEqual(air.longer(2), [])
        self.assertEqual(air.on(), (4, 9, 2))

    def test_rows_shifted_moved_and_left(self):
        rows = [live(5, 4), clip(9, 3), clip(1, 2), clip(7, 2, 10), clip(4, 3), clip(0, 1)]
        air = Air(rows, FIVES, 16)
        self.assertEqual(air.plan(), [
            (0, 4, 5), (4, 7, 9), (7, 9, 1), (9, 10, fill(1)), (10, 12, 7), (12, 15, 4), (15, 16, 0),
        ])
        # 9 and 1 have room no longer together: 1 is moved, and 4 gives way to it and to 0.
        self.assertEqual(air.longer(2), [(0, 15, 14), (1, 7, 12), (4, 12, None), (9, 4, 6)])
        self.assertEqual(air.left(), [4])


class Ended(AirCase):
    """Point 8."""

    def test_of_a_live_row(self):
        air = day(5)
        self.assertEqual(air.ended(), [])
        self.assertEqual((air.on(), air.now(), air.log()), ((5, 10, fill(5)), 5, [(0, 4, 1), (4, 5, 2)]))
        self.assertEqual(air.plan()[:4], [(5, 10, fill(5)), (10, 11, fill(1)), (11, 12, fill(1)), (12, 17, 7)])

    def test_the_next_row_is_on_air(self):
        air = day(14)
        self.assertEqual(air.ended(), [(3, 17, 14)])
        self.assertEqual(air.on(), (14, 16, 3))
        self.refused(NoRow, air.remove, 3)

    def test_the_row_that_it_ends_is_not_told(self):
        air = Air([clip(9, 1), live(5, 8), live(3, 2), clip(4, 2)], ONES, 20)
        air.go(2)
        self.assertEqual(air.ended(), [(3, 9, 2), (4, 11, 4)])
        air.go(3)
        self.assertEqual(air.ended(), [(4, 4, 3)])

    def test_a_row_that_was_left_is_told(self):
        air = Air([live(5, 8), clip(3, 2), clip(2, 1)], ONES, 9)
        self.assertEqual(air.left(), [3])
        air.go(7)
        self.assertEqual(air.ended(), [(2, 8, None), (3, None, 7)])
        self.assertEqual((air.plan(), air.left()), ([(7, 9, 3)], [2]))

    def test_of_a_clip(self):
        self.refused(NotLive, day(1).ended)

    def test_of_a_filler(self):
        self.refused(NotLive, day(8).ended)

    def test_of_a_live_row_that_began_now(self):
        self.refused(NotLive, day(4).ended)
        self.refused(NotLive, day(12).ended)
        self.refused(NotLive, Air([live(1, 5)], FIVES, 30).ended)
        air = Air([live(1, 5), live(2, 5)], FIVES, 30)
        air.go(2)
        air.ended()
        self.assertEqual(air.on(), (2, 7, 2))
        self.refused(NotLive, air.ended)

    def test_at_the_end(self):
        self.refused(NotLive, day(30).ended)

    def test_behind_longer(self):
        air = Air([live(1, 5), clip(2, 4)], FIVES, 30)
        air.go(2)
        air.longer(10)
        self.assertEqual(air.ended(), [(2, 15, 2)])
        self.assertEqual(air.log(), [(0, 2, 1)])
        # What was longer was the row that is over, not what is on air now.
        self.assertEqual(air.on(), (2, 6, 2))

    def test_at_the_last_second(self):
        air = Air([live(1, 120, 0)], FIVES, 30)
        air.go(29)
        self.assertEqual(air.ended(), [])
        self.assertEqual((air.plan(), air.log()), ([(29, 30, fill(1))], [(0, 29, 1)]))

    def test_ahead_of_a_moment(self):
        air = Air([live(1, 120, 0), clip(2, 3, 6)], FIVES, 30)
        air.go(5)
        self.assertEqual(air.ended(), [])
        self.assertEqual(air.plan()[:2], [(5, 6, fill(1)), (6, 9, 2)])


class Added(AirCase):
    """Point 8."""

    def test_at_place_0(self):
        air = day(2)
        self.assertEqual(air.add(clip(50, 1), 0), [(2, 4, 5), (50, None, 4)])
        self.assertEqual(air.plan()[:3], [(0, 4, 1), (4, 5, 50), (5, 8, 2)])

    def test_in_the_middle(self):
        air = day(2)
        self.assertEqual(air.add(clip(50, 5), 1), [(50, None, 7)])
        self.assertEqual(air.plan()[:4], [(0, 4, 1), (4, 7, 2), (7, 12, 50), (12, 17, 7)])
        air = day(2)
        self.assertEqual(air.add(clip(50, 5), 2), [(3, 17, 22), (50, None, 17)])

    def test_behind_the_last(self):
        air = day(2)
        self.assertEqual(air.add(clip(50, 5), 3), [(50, None, 19)])
        self.assertEqual(air.plan()[4:6], [(17, 19, 3), (19, 24, 50)])

    def test_where_none_waits(self):
        air = day(20)
        self.assertEqual(air.add(clip(50, 5), 0), [(50, None, 24)])
        self.refused(BadPlace, air.add, clip(51, 5), 2)
        self.assertEqual(air.add(clip(51, 1), 1), [(51, None, 29)])

    def test_places_are_those_of_rows_that_wait(self):
        air = day(13)
        self.refused(BadPlace, air.add, clip(50, 5), 2)
        self.assertEqual(air.add(clip(50, 5), 0), [(3, 17, 22), (50, None, 17)])

    def test_bad_places(self):
        self.refused(BadPlace, day(2).add, clip(50, 5), -1)
        self.refused(BadPlace, day(2).add, clip(50, 5), 4)
        self.refused(BadPlace, day(2).add, clip(50, 5), 60)
        self.refused(BadPlace, day(30).add, clip(50, 5), 1)

    def test_with_a_moment(self):
        air = day(2)
        self.assertEqual(air.add(clip(50, 120, 15), 2), [(3, 17, None), (50, None, 15)])
        self.assertEqual(air.plan()[3:], [(12, 15, 7), (15, 30, 50)])

    def test_a_moment_at_now(self):
        self.refused(BadRow, day(2).add, clip(50, 5, 2), 0)
        self.refused(BadRow, day(2).add, clip(50, 5, 1), 0)
        self.refused(BadRow, day().add, clip(50, 5, 0), 0)
        self.refused(BadRow, day(4).add, clip(50, 5, 4), 0)

    def test_a_moment_one_later_than_now(self):
        air = day(2)
        self.assertEqual(air.add(clip(50, 5, 3), 0), [(2, 4, 8), (50, None, 3)])
        self.assertEqual(air.on(), (0, 3, 1))
        self.assertEqual(air.go(3), [(0, 3, 1)])
        self.assertEqual(air.on(), (3, 8, 50))

    def test_a_moment_at_the_last_second(self):
        air = day(2)
        self.assertEqual(air.add(clip(50, 5, 29), 3), [(50, None, 29)])
        self.assertEqual(air.plan()[-1], (29, 30, 50))

    def test_a_moment_not_less_than_the_end(self):
        self.refused(BadRow, day(2).add, clip(50, 5, 30), 3)
        self.refused(BadRow, day(2).add, clip(50, 5, 899), 3)
        self.refused(BadRow, day(30).add, clip(50, 5, 30), 0)

    def test_a_moment_not_greater_than_those_ahead(self):
        self.refused(BadRow, day(2).add, clip(50, 5, 12), 2)
        self.refused(BadRow, day(2).add, clip(50, 5, 11), 2)
        self.refused(BadRow, day(2).add, clip(50, 5, 11), 3)
        self.assertEqual(day(2).add(clip(50, 5, 13), 2)[-1], (50, None, 13))
        self.assertEqual(day(2).add(clip(50, 5, 13), 3)[-1], (50, None, 13))

    def test_a_moment_not_less_than_those_behind(self):
        self.refused(BadRow, day(2).add, clip(50, 5, 12), 1)
        self.refused(BadRow, day(2).add, clip(50, 5, 13), 1)
        self.refused(BadRow, day(2).add, clip(50, 5, 13), 0)
        self.assertEqual(day(2).add(clip(50, 5, 11), 1)[-1], (50, None, 11))
        self.assertEqual(day(2).add(clip(50, 5, 11), 0)[-1], (50, None, 11))

    def test_moments_of_rows_that_wait_no_longer_do_not_matter(self):
        air = Air([clip(1, 9), live(7, 4, 3), clip(2, 1)], ONES, 40)
        air.go(5)
        # 1 was moved behind 7; a row ahead of 1 still may have a moment.
        self.assertEqual(air.add(clip(50, 2, 9), 0), [(1, 7, 11), (2, 16, 20), (50, None, 9)])

    def test_rows_that_are_none(self):
        wrong = (
            (), (50,), (50, "clip", 5), (50, "clip", 5, None, None), (-1, "clip", 5, None), (100, "clip", 5, None),
            (50, "tape", 5, None), (50, "Clip", 5, None), (50, "clip", 0, None), (50, "live", 121, None),
            (50, "clip", 5, -1), (50, "clip", 5, 900), (None, "clip", 5, None), ("50", "clip", 5, None),
            (50, None, 5, None), (50, "clip", "5", None), (50, "clip", None, None), (50, "clip", 5, "20"),
        )
        for row in wrong:
            with self.subTest(row):
                self.refused(BadRow, day(2).add, row, 0)

    def test_rows_at_their_bounds(self):
        for row in (clip(0, 1), live(99, 120), clip(50, 120, 3), live(0, 1, 3)):
            with self.subTest(row):
                air = day(2)
                air.add(row, 0)
                self.assertIn(row[0], [entry[2] for entry in air.plan()] + air.left())

    def test_an_id_that_was_in_the_list_once(self):
        self.refused(BadRow, day(2).add, clip(3, 5), 0)
        self.refused(BadRow, day(2).add, clip(1, 5), 0)
        self.refused(BadRow, day(9).add, clip(1, 5), 0)
        self.refused(BadRow, day(30).add, clip(1, 5), 0)
        air = day(2)
        air.remove(3)
        self.refused(BadRow, air.add, clip(3, 2), 0)
        air.add(clip(50, 1), 0)
        self.refused(BadRow, air.add, clip(50, 1), 0)
        air.remove(50)
        self.refused(BadRow, air.add, clip(50, 1), 0)

    def test_an_id_of_a_row_that_was_refused(self):
        air = day(2)
        self.refused(BadRow, air.add, clip(50, 1, 2), 0)
        self.refused(BadPlace, air.add, clip(50, 1), 9)
        self.assertEqual(air.add(clip(50, 5), 3), [(50, None, 19)])

    def test_the_order_of_refusals(self):
        self.refused(BadRow, day(2).add, (), 4)
        self.refused(BadRow, day(2).add, clip(1, 5), 4)
        self.refused(BadRow, day(2).add, clip(50, 5, 2), 4)
        self.refused(BadRow, day(2).add, clip(50, 5, 30), -1)
        # Which moments are ahead only a place tells.
        self.refused(BadPlace, day(2).add, clip(50, 5, 12), 4)
        self.refused(BadPlace, day(2).add, clip(50, 5, 12), -1)

    def test_a_row_without_room_is_left_and_not_told(self):
        air = day(2)
        self.assertEqual(air.add(clip(50, 12), 3), [])
        self.assertEqual((air.plan(), air.left()), (DAY_PLAN, [50]))

    def test_a_row_by_which_another_is_left(self):
        air = Air([live(9, 5), clip(8, 6)], FIVES, 12)
        self.assertEqual(air.add(clip(0, 4), 0), [(0, None, 5), (8, 5, None)])
        self.assertEqual(air.left(), [8])

    def test_at_the_end(self):
        air = day(30)
        self.assertEqual(air.add(clip(50, 1), 0), [])
        self.assertEqual(air.add(clip(51, 1), 0), [])
        self.assertEqual((air.on(), air.plan(), air.left(), air.log()), (None, [], [51, 50], DAY_PLAN))

    def test_what_is_on_air_stays(self):
        air = Air([], (1, 10), 20)
        self.assertEqual(air.add(clip(50, 5), 0), [(50, None, 10)])
        self.assertEqual(air.plan()[:2], [(0, 10, fill(10)), (10, 15, 50)])

    def test_more_than_thirty_wait(self):
        air = Air([clip(number, 1) for number in range(30)], ONES, 100)
        for number in range(30, 60):
            self.assertEqual(air.add(clip(number, 1), number - 1), [(number, None, number)])
        self.assertEqual(air.go(61), [(at, at + 1, at) for at in range(60)] + [(60, 61, fill(1))])


class Removed(AirCase):
    """Point 8."""

    def test_one_that_waits(self):
        air = day(2)
        self.assertEqual(air.remove(2), [(2, 4, None)])
        self.assertEqual(air.plan()[:3], [(0, 4, 1), (4, 9, fill(5)), (9, 10, fill(1))])
        self.assertEqual(air.left(), [])

    def test_one_by_which_others_come_earlier(self):
        air = Air([clip(1, 2), clip(6, 5), clip(3, 1), clip(2, 4)], ONES, 10)
        self.assertEqual((air.left(), [entry[2] for entry in air.plan()[:3]]), ([2], [1, 6, 3]))
        self.assertEqual(air.remove(6), [(2, None, 3), (3, 7, 2), (6, 2, None)])

    def test_one_with_a_moment(self):
        air = day(2)
        self.assertEqual(air.remove(7), [(3, 17, 7), (7, 12, None)])

    def test_one_that_would_be_left(self):
        air = Air([clip(1, 2), clip(6, 50)], ONES, 10)
        self.assertEqual(air.remove(6), [])
        self.assertEqual(air.left(), [])
        self.refused(NoRow, air.remove, 6)

    def test_one_that_is_on_air(self):
        self.refused(NoRow, day().remove, 1)
        self.refused(NoRow, day(4).remove, 2)
        self.refused(NoRow, day(13).remove, 7)

    def test_one_that_was_aired(self):
        self.refused(NoRow, day(4).remove, 1)
        self.refused(NoRow, day(30).remove, 3)
        air = day(5)
        air.ended()
        self.refused(NoRow, air.remove, 2)

    def test_one_that_never_was(self):
        self.refused(NoRow, day().remove, 50)
        self.refused(NoRow, day().remove, -1)
        self.refused(NoRow, Air([], FIVES, 30).remove, 5)

    def test_one_that_was_removed(self):
        air = day()
        air.remove(3)
        self.refused(NoRow, air.remove, 3)

    def test_at_the_end(self):
        air = Air([clip(1, 2), clip(6, 50)], ONES, 10)
        air.go(10)
        self.assertEqual(air.left(), [6])
        self.assertEqual(air.remove(6), [])
        self.assertEqual(air.left(), [])

    def test_a_row_that_came(self):
        air = day(2)
        told = all_told(air)
        air.add(clip(50, 1), 0)
        self.assertEqual(air.remove(50), [(2, 5, 4), (50, 4, None)])
        self.assertEqual(all_told(air), told)


class HandedAndTold(AirCase):
    """Point 1."""

    def test_what_is_handed_in_is_not_changed(self):
        rows = list(DAY)
        air = Air(rows, FIVES, 30)
        air.add(clip(50, 1), 0)
        air.remove(3)
        air.go(14)
        air.longer(2)
        air.ended()
        air.go(30)
        self.assertEqual(rows, DAY)
        for wrong in ([clip(1, 5), clip(1, 5)], [clip(number, 1) for number in range(31)]):
            same = list(wrong)
            with self.assertRaises(BadRows):
                Air(same, FIVES, 30)
            self.assertEqual(same, wrong)

    def test_what_is_handed_in_may_be_changed_later(self):
        rows = list(DAY)
        air = Air(rows, FIVES, 30)
        rows.clear()
        rows.append(clip(99, 1, 1))
        self.assertEqual(all_told(air), all_told(day()))
        self.refused(NoRow, air.remove, 99)
        rows[0] = clip(98, 1, 2)
        air.go(4)
        self.assertEqual(all_told(air), all_told(day(4)))
        self.refused(BadRow, air.add, clip(1, 1), 0)
        self.assertEqual(air.go(30), DAY_PLAN[1:])

    def test_what_plan_left_and_log_tell_may_be_changed(self):
        air = Air([clip(1, 4), live(2, 3), clip(5, 50)], FIVES, 20)
        air.go(5)
        told = copy.deepcopy(all_told(air))
        self.assertEqual(air.left(), [5])
        for ask in (air.plan, air.left, air.log):
            answer = ask()
            answer.append(7)
            answer[0] = 8
            answer = ask()
            answer.clear()
        self.assertEqual(all_told(air), told)
        self.assertEqual(air.go(7), [(4, 7, 2)])

    def test_what_deeds_tell_may_be_changed(self):
        deeds = (("go", 14), ("longer", 2), ("add", clip(50, 1), 0), ("remove", 3), ("ended",), ("go", 30))
        air = day()
        same = day()
        for word, *handed in deeds:
            answer = getattr(air, word)(*handed)
            self.assertEqual(answer, getattr(same, word)(*handed))
            answer.append(99)
            answer[0] = None
            self.assertEqual(all_told(air), all_told(same))

    def test_the_same_is_told_again(self):
        for second in (0, 2, 4, 9, 12, 30):
            air = day(second)
            self.assertEqual(all_told(air), all_told(air))

    def test_asking_changes_nothing(self):
        air = day(5)
        all_told(air)
        self.assertEqual(air.go(30), DAY_PLAN[1:])

    def test_two_airs_are_apart(self):
        rows = list(DAY)
        one = Air(rows, FIVES, 30)
        other = Air(rows, FIVES, 30)
        one.remove(3)
        one.go(9)
        self.assertEqual(all_told(other), all_told(day()))

    def test_kinds_of_what_is_told(self):
        air = day(9)
        for told in (air.plan(), air.log()):
            self.assertIs(type(told), list)
            for entry in told:
                self.assertIs(type(entry), tuple)
                self.assertEqual([type(second) for second in entry[:2]], [int, int])
                self.assertIn(type(entry[2]), (int, tuple))
        self.assertIs(type(air.on()), tuple)
        self.assertIs(type(air.now()), int)
        self.assertIs(type(air.left()), list)
        air = day(14)
        for told in (air.go(15), air.longer(1), air.add(clip(50, 1), 0), air.remove(3), air.ended()):
            self.assertIs(type(told), list)
            for entry in told:
                self.assertIs(type(entry), tuple)

    def test_the_class_itself_defines_its_methods(self):
        self.assertEqual(Air.__module__, "airtime.air")
        for name in ("on", "now", "go", "plan", "left", "log", "longer", "ended", "add", "remove"):
            self.assertIn(name, Air.__dict__)


if __name__ == "__main__":
    unittest.main()
