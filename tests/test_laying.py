"""Points 4 and 5: rows laid from a begin to an end. Point 1 for `laid`."""

import copy
import itertools
import random
import unittest

from airtime.errors import BadEnd, BadFillers, BadRows
from airtime.filling import filled
from airtime.laying import laid

ONES = (1,)
FIVES = (1, 5)


def fill(length):
    return ("fill", length)


def clip(number, length, moment=None):
    return (number, "clip", length, moment)


def choices_of(rows, room):
    """All ways to move rows, each a list of whether the row is moved, in which the others have room."""
    ways = itertools.product((False, True), repeat=len(rows))
    return [way for way in ways if sum(row[2] for row, gone in zip(rows, way) if not gone) <= room]


def laid_by_trial(rows, fillers, begin, end):
    """What `laid` tells, by trying all choices in each stretch, second by second."""
    moments = [row[3] for row in rows if row[3] is not None]
    starts = [begin] + moments
    waiting = []
    aired = []
    for at, start in enumerate(starts):
        stop = (starts + [end])[at + 1]
        second = start
        for row in rows:
            if at > 0 and row[3] == start:
                second = min(start + row[2], stop)
                aired.append((start, second, row[0]))
        for place, row in enumerate(rows):
            if row[3] is None and len([one for one in rows[:place] if one[3] is not None]) == at:
                waiting.append(row)
        way = min(choices_of(waiting, stop - second), key=lambda one: (sum(one), one))
        for row, gone in zip(waiting, way):
            if not gone:
                aired.append((second, second + row[2], row[0]))
                second += row[2]
        for length in filled(stop - second, fillers):
            aired.append((second, second + length, fill(length)))
            second += length
        waiting = [row for row, gone in zip(waiting, way) if gone]
    return aired, [row[0] for row in waiting]


class Stretches(unittest.TestCase):
    """Point 4."""

    def test_no_rows(self):
        self.assertEqual(laid([], FIVES, 0, 7), ([(0, 5, fill(5)), (5, 6, fill(1)), (6, 7, fill(1))], []))
        self.assertEqual(laid([], FIVES, 0, 1), ([(0, 1, fill(1))], []))
        self.assertEqual(laid([], FIVES, 894, 900), ([(894, 899, fill(5)), (899, 900, fill(1))], []))
        self.assertEqual(laid([], (1, 3, 4), 0, 6), ([(0, 3, fill(3)), (3, 6, fill(3))], []))

    def test_no_moment(self):
        rows = [clip(4, 3), (2, "live", 4, None)]
        self.assertEqual(laid(rows, FIVES, 0, 13), ([(0, 3, 4), (3, 7, 2), (7, 12, fill(5)), (12, 13, fill(1))], []))
        self.assertEqual(laid(rows, FIVES, 20, 27), ([(20, 23, 4), (23, 27, 2)], []))

    def test_a_row_that_is_just_the_time(self):
        self.assertEqual(laid([clip(0, 1)], ONES, 0, 1), ([(0, 1, 0)], []))
        self.assertEqual(laid([clip(0, 120)], ONES, 780, 900), ([(780, 900, 0)], []))

    def test_a_moment_alone(self):
        told = laid([clip(7, 3, 2)], FIVES, 0, 10)
        self.assertEqual(told, ([(0, 1, fill(1)), (1, 2, fill(1)), (2, 5, 7), (5, 10, fill(5))], []))

    def test_a_moment_at_the_begin(self):
        self.assertEqual(laid([clip(7, 3, 0)], FIVES, 0, 8), ([(0, 3, 7), (3, 8, fill(5))], []))
        self.assertEqual(laid([clip(7, 3, 5)], FIVES, 5, 13), ([(5, 8, 7), (8, 13, fill(5))], []))

    def test_rows_ahead_of_a_moment_at_the_begin(self):
        rows = [clip(1, 2), clip(2, 2), clip(7, 3, 5), clip(3, 2)]
        told = laid(rows, FIVES, 5, 15)
        self.assertEqual(told, ([(5, 8, 7), (8, 10, 1), (10, 12, 2), (12, 14, 3), (14, 15, fill(1))], []))

    def test_rows_ahead_between_and_behind(self):
        rows = [clip(1, 2), clip(2, 3), clip(10, 2, 10), clip(3, 4), (20, "live", 3, 20), clip(4, 1), clip(5, 2)]
        told = laid(rows, FIVES, 0, 31)
        self.assertEqual(told, ([
            (0, 2, 1), (2, 5, 2), (5, 10, fill(5)),
            (10, 12, 10), (12, 16, 3), (16, 17, fill(1)), (17, 18, fill(1)), (18, 19, fill(1)), (19, 20, fill(1)),
            (20, 23, 20), (23, 24, 4), (24, 26, 5), (26, 31, fill(5)),
        ], []))

    def test_rows_do_not_come_ahead_of_their_stretch(self):
        rows = [clip(10, 2, 10), clip(3, 4)]
        self.assertEqual(laid(rows, (1, 10), 0, 16), ([(0, 10, fill(10)), (10, 12, 10), (12, 16, 3)], []))

    def test_fillers_stand_behind_rows(self):
        rows = [clip(1, 2), clip(2, 3)]
        told = laid(rows, (1, 3, 4), 0, 11)
        self.assertEqual(told, ([(0, 2, 1), (2, 5, 2), (5, 8, fill(3)), (8, 11, fill(3))], []))

    def test_a_row_longer_than_its_stretch(self):
        rows = [clip(1, 120, 0), (2, "live", 120, 3), clip(3, 120, 7)]
        self.assertEqual(laid(rows, FIVES, 0, 9), ([(0, 3, 1), (3, 7, 2), (7, 9, 3)], []))

    def test_a_row_just_as_long_as_its_stretch(self):
        rows = [clip(1, 3, 0), clip(2, 4, 3)]
        self.assertEqual(laid(rows, FIVES, 0, 7), ([(0, 3, 1), (3, 7, 2)], []))

    def test_rows_without_room_behind_a_long_row(self):
        rows = [clip(1, 120, 0), clip(5, 1), clip(2, 2, 3), clip(6, 2)]
        self.assertEqual(laid(rows, FIVES, 0, 8), ([(0, 3, 1), (3, 5, 2), (5, 6, 5), (6, 8, 6)], []))

    def test_rows_are_whole_or_not_at_all(self):
        self.assertEqual(laid([clip(1, 8)], FIVES, 0, 7)[1], [1])
        rows = [clip(1, 8), clip(2, 2, 7)]
        told = laid(rows, FIVES, 0, 17)
        self.assertEqual(told, ([(0, 5, fill(5)), (5, 6, fill(1)), (6, 7, fill(1)), (7, 9, 2), (9, 17, 1)], []))

    def test_moments_one_second_apart(self):
        rows = [clip(1, 5, 0), clip(9, 1), clip(2, 5, 1), clip(3, 5, 2)]
        self.assertEqual(laid(rows, FIVES, 0, 8), ([(0, 1, 1), (1, 2, 2), (2, 7, 3), (7, 8, 9)], []))

    def test_a_moment_at_the_last_second(self):
        told = laid([clip(1, 120, 899)], (1, 19), 880, 900)
        self.assertEqual(told, ([(880, 899, fill(19)), (899, 900, 1)], []))

    def test_live_rows_are_laid_by_their_length(self):
        live = [(1, "live", 4, None), (2, "live", 3, 6)]
        clips = [clip(1, 4), clip(2, 3, 6)]
        self.assertEqual(laid(live, FIVES, 0, 20), laid(clips, FIVES, 0, 20))

    def test_a_begin_out_of_its_range(self):
        for begin, end in ((-1, 10), (10, 10), (11, 10)):
            with self.subTest(begin=begin, end=end), self.assertRaises(BadEnd):
                laid([], FIVES, begin, end)
        self.assertEqual(laid([], FIVES, 9, 10), ([(9, 10, fill(1))], []))


class Moved(unittest.TestCase):
    """Point 5."""

    def left(self, lengths, room):
        """The ids, from 0 by their place, of rows of these lengths that have no room."""
        rows = [clip(number, length) for number, length in enumerate(lengths)]
        return laid(rows, ONES, 0, room)[1]

    def test_all_have_room(self):
        self.assertEqual(self.left([3, 4], 7), [])

    def test_one_moved_of_which_each_would_do(self):
        self.assertEqual(self.left([3, 3, 3], 6), [2])
        self.assertEqual(self.left([3, 3, 3], 8), [2])

    def test_as_few_as_can_be(self):
        self.assertEqual(self.left([9, 2, 3, 4], 9), [0])
        self.assertEqual(self.left([2, 9, 3, 4], 9), [1])
        self.assertEqual(self.left([5, 5, 2, 2, 2], 6), [0, 1])
        self.assertEqual(self.left([120, 120, 1], 5), [0, 1])

    def test_not_the_longest_where_another_choice_keeps_the_first(self):
        self.assertEqual(self.left([6, 2, 3], 9), [2])
        self.assertEqual(self.left([6, 4, 3], 9), [1])
        self.assertEqual(self.left([5, 4, 3, 2], 10), [1])
        self.assertEqual(self.left([4, 6, 3, 2], 10), [1])
        self.assertEqual(self.left([3, 4, 5, 2, 1], 9), [2, 4])

    def test_the_first_row_is_kept_and_later_ones_give_way(self):
        self.assertEqual(self.left([5, 1, 4, 1], 7), [2])
        self.assertEqual(self.left([4, 4, 1, 4, 1], 6), [1, 3])

    def test_moved_to_the_next_stretch_ahead_of_its_own(self):
        rows = [clip(1, 3), clip(2, 3), clip(10, 2, 4), clip(3, 1), clip(4, 2)]
        told = laid(rows, FIVES, 0, 13)
        self.assertEqual(told, ([
            (0, 3, 1), (3, 4, fill(1)), (4, 6, 10), (6, 9, 2), (9, 10, 3), (10, 12, 4), (12, 13, fill(1)),
        ], []))

    def test_a_moved_row_does_not_take_more_room_than_its_share(self):
        rows = [clip(1, 5), clip(10, 1, 3), clip(2, 3), clip(3, 3)]
        told = laid(rows, ONES, 0, 10)
        self.assertEqual(told[1], [1])
        self.assertEqual(told[0][3:], [(3, 4, 10), (4, 7, 2), (7, 10, 3)])

    def test_moved_over_more_than_one_stretch(self):
        rows = [clip(1, 6), clip(10, 1, 3), clip(2, 2), clip(20, 1, 6), clip(3, 5), clip(30, 1, 9), clip(4, 1)]
        told = laid(rows, FIVES, 0, 23)
        self.assertEqual(told, ([
            (0, 1, fill(1)), (1, 2, fill(1)), (2, 3, fill(1)), (3, 4, 10), (4, 6, 2),
            (6, 7, 20), (7, 8, fill(1)), (8, 9, fill(1)),
            (9, 10, 30), (10, 16, 1), (16, 21, 3), (21, 22, 4), (22, 23, fill(1)),
        ], []))

    def test_left_from_the_last_stretch_in_order(self):
        rows = [clip(9, 8), clip(1, 2), clip(10, 2, 3), clip(5, 7), clip(3, 6), clip(4, 1)]
        told = laid(rows, ONES, 0, 8)
        self.assertEqual(told, ([(0, 2, 1), (2, 3, fill(1)), (3, 5, 10), (5, 6, 4), (6, 7, fill(1)), (7, 8, fill(1))],
                                [9, 5, 3]))

    def test_all_are_left(self):
        self.assertEqual(laid([clip(8, 9), clip(2, 7)], (1, 6), 0, 6), ([(0, 6, fill(6))], [8, 2]))

    def test_rows_with_a_moment_are_never_moved(self):
        rows = [clip(1, 120, 0), clip(2, 120, 1), clip(3, 120, 2)]
        self.assertEqual(laid(rows, FIVES, 0, 3), ([(0, 1, 1), (1, 2, 2), (2, 3, 3)], []))

    def test_thirty_rows_in_too_little_time(self):
        lengths = [1 + 37 * number % 120 for number in range(30)]
        gone = self.left(lengths, 400)
        kept = [length for number, length in enumerate(lengths) if number not in gone]
        self.assertLessEqual(sum(kept), 400)
        self.assertGreater(sum(sorted(lengths)[:len(kept) + 1]), 400)
        self.assertEqual(gone, sorted(gone))


class Trials(unittest.TestCase):
    """What is told against all choices, of lists that are drawn from a fixed start."""

    def drawn(self, dice):
        begin = dice.choice((0, 0, 3, 850))
        end = begin + dice.randint(1, 40)
        moments = sorted(dice.sample(range(begin, end), dice.randint(0, min(3, end - begin))))
        ids = dice.sample(range(100), 10)
        rows = [(number, dice.choice(("clip", "live")), dice.randint(1, 12), None) for number in ids[:dice.randint(0, 7)]]
        places = sorted(dice.randint(0, len(rows)) for _ in moments)
        for at, (place, moment) in enumerate(zip(places, moments)):
            rows.insert(place + at, (ids[-1 - at], "clip", dice.randint(1, 15), moment))
        fillers = (1,) + tuple(sorted(dice.sample(range(2, 12), dice.randint(0, 5))))
        return rows, fillers, begin, end

    def test_against_all_choices(self):
        dice = random.Random(4)
        for _ in range(400):
            handed = self.drawn(dice)
            with self.subTest(handed=handed):
                self.assertEqual(laid(*handed), laid_by_trial(*handed))

    def test_each_second_is_filled_and_each_row_is_told_once(self):
        dice = random.Random(5)
        for _ in range(400):
            rows, fillers, begin, end = self.drawn(dice)
            with self.subTest(rows=rows, fillers=fillers, begin=begin, end=end):
                aired, left = laid(rows, fillers, begin, end)
                self.assertEqual([entry[0] for entry in aired] + [end], [begin] + [entry[1] for entry in aired])
                self.assertTrue(all(entry[0] < entry[1] for entry in aired))
                told = [entry[2] for entry in aired if isinstance(entry[2], int)] + left
                self.assertEqual(sorted(told), sorted(row[0] for row in rows))


class HandedAndTold(unittest.TestCase):
    """Point 1."""

    ROWS = [clip(1, 8), clip(2, 2), clip(10, 3, 4), clip(3, 6), clip(20, 9, 12), clip(4, 6)]

    def test_what_is_handed_in_is_not_changed(self):
        rows = copy.deepcopy(self.ROWS)
        laid(rows, FIVES, 0, 30)
        self.assertEqual(rows, self.ROWS)
        for wrong in ([(5, "clip", 3, None), (5, "clip", 3, None)], MORE_THAN_THIRTY):
            same = list(wrong)
            with self.assertRaises(BadRows):
                laid(same, FIVES, 0, 30)
            self.assertEqual(same, wrong)

    def test_what_is_handed_in_may_be_changed_later(self):
        rows = list(self.ROWS)
        told = laid(rows, FIVES, 0, 30)
        same = copy.deepcopy(told)
        rows.clear()
        self.assertEqual(told, same)
        self.assertEqual(laid(rows, FIVES, 0, 5), ([(0, 5, fill(5))], []))

    def test_what_is_told_may_be_changed(self):
        rows = list(self.ROWS)
        told = laid(rows, FIVES, 0, 14)
        same = copy.deepcopy(told)
        self.assertEqual(told[1], [1, 3, 4])
        told[0].clear()
        told[1].append(50)
        self.assertEqual(laid(rows, FIVES, 0, 14), same)
        self.assertEqual(rows, self.ROWS)

    def test_the_two_lists_are_apart(self):
        aired, left = laid([], ONES, 0, 1)
        left.append(3)
        self.assertEqual(aired, [(0, 1, fill(1))])

    def test_the_same_is_told_again_behind_refusals(self):
        told = laid(self.ROWS, FIVES, 0, 30)
        with self.assertRaises(BadEnd):
            laid(self.ROWS, FIVES, 30, 30)
        with self.assertRaises(BadRows):
            laid(self.ROWS, FIVES, 0, 12)
        with self.assertRaises(BadFillers):
            laid(self.ROWS, (), 0, 30)
        self.assertEqual(laid(self.ROWS, FIVES, 0, 30), told)

    def test_kinds_of_what_is_told(self):
        told = laid(self.ROWS, FIVES, 0, 14)
        self.assertIs(type(told), tuple)
        self.assertEqual([type(part) for part in told], [list, list])
        for entry in told[0]:
            self.assertIs(type(entry), tuple)
            self.assertEqual([type(second) for second in entry[:2]], [int, int])
            self.assertIn(type(entry[2]), (int, tuple))
        self.assertEqual({type(number) for number in told[1]}, {int})


MORE_THAN_THIRTY = [clip(number, 1) for number in range(31)]


if __name__ == "__main__":
    unittest.main()
