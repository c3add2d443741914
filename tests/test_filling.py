"""Point 3: fillers, and rooms that are filled by as few as can be. Point 1 for `filled`."""

import itertools
import unittest

from airtime.errors import BadFillers, BadRoom
from airtime.filling import filled


def fewest_by_trial(room, fillers):
    """All lists by their size, without a table: the first size that does, and of it the greatest."""
    for many in range(room + 1):
        lists = itertools.combinations_with_replacement(sorted(fillers, reverse=True), many)
        fitting = [list(lengths) for lengths in lists if sum(lengths) == room]
        if fitting:
            return max(fitting)
    raise AssertionError("1 is a filler, so each room can be filled")


class Filled(unittest.TestCase):
    def test_rooms_at_their_bounds(self):
        self.assertEqual(filled(0, (1, 5)), [])
        self.assertEqual(filled(1, (1, 5)), [1])
        self.assertEqual(filled(900, (1, 60)), [60] * 15)
        self.assertEqual(filled(900, (1,)), [1] * 900)
        self.assertEqual(filled(900, (1, 7)), [7] * 128 + [1] * 4)
        self.assertEqual(filled(0, (1,)), [])

    def test_one_length(self):
        self.assertEqual(filled(1, (1,)), [1])
        self.assertEqual(filled(7, (1,)), [1] * 7)

    def test_six_lengths(self):
        fillers = (1, 5, 10, 20, 30, 60)
        self.assertEqual(filled(899, fillers), [60] * 14 + [30, 20, 5, 1, 1, 1, 1])
        self.assertEqual(filled(5, fillers), [5])
        self.assertEqual(filled(59, fillers), [30, 20, 5, 1, 1, 1, 1])
        self.assertEqual(filled(5, (1, 2, 3, 4, 5, 6)), [5])

    def test_the_greatest_length_first_would_take_more(self):
        self.assertEqual(filled(6, (1, 3, 4)), [3, 3])
        self.assertEqual(filled(30, (1, 15, 25)), [15, 15])
        self.assertEqual(filled(27, (1, 9, 10, 20)), [9, 9, 9])
        self.assertEqual(filled(63, (1, 21, 60)), [21, 21, 21])

    def test_of_several_as_few_the_greatest(self):
        self.assertEqual(filled(8, (1, 3, 4, 5)), [5, 3])
        self.assertEqual(filled(12, (1, 5, 6, 7)), [7, 5])
        self.assertEqual(filled(10, (1, 2, 4, 5, 6, 8)), [8, 2])
        self.assertEqual(filled(15, (1, 4, 5, 6)), [6, 5, 4])

    def test_the_greatest_first(self):
        self.assertEqual(filled(18, (1, 2, 5, 10)), [10, 5, 2, 1])

    def test_room_far_smaller_than_the_fillers(self):
        self.assertEqual(filled(3, (1, 59, 60)), [1, 1, 1])

    def test_against_all_lists(self):
        for fillers in ((1,), (1, 2), (1, 3, 4), (1, 4, 5, 6), (1, 5, 7, 8), (1, 2, 4, 5, 6, 9), (1, 6, 7, 11)):
            for room in range(23 if len(fillers) > 1 else 9):
                with self.subTest(fillers=fillers, room=room):
                    self.assertEqual(filled(room, fillers), fewest_by_trial(room, fillers))

    def test_bad_rooms(self):
        for room in (-900, -1, 901, 1800):
            with self.subTest(room), self.assertRaises(BadRoom):
                filled(room, (1, 5))

    def test_fillers_at_their_bounds(self):
        self.assertEqual(filled(2, (1, 2)), [2])
        self.assertEqual(filled(60, (1, 60)), [60])
        self.assertEqual(filled(60, (1, 56, 57, 58, 59, 60)), [60])

    def test_bad_fillers(self):
        wrong = (
            (), (1, 2, 3, 4, 5, 6, 7), (2,), (2, 3), (0, 1), (-1, 1), (5, 1), (1, 1), (1, 3, 3), (1, 5, 4),
            (1, 3, 2, 4), (1, 61), (61,), (1, 10, 61), (1, 0), (1, -2), (0,), (60,),
        )
        for fillers in wrong:
            for room in (0, 10, 900):
                with self.subTest(fillers=fillers, room=room), self.assertRaises(BadFillers):
                    filled(room, fillers)

    def test_the_room_is_refused_ahead_of_the_fillers(self):
        with self.assertRaises(BadRoom):
            filled(901, (2,))
        with self.assertRaises(BadRoom):
            filled(-1, ())

    def test_what_is_told_may_be_changed(self):
        told = filled(18, (1, 2, 5, 10))
        told.append(99)
        told[0] = 0
        self.assertEqual(filled(18, (1, 2, 5, 10)), [10, 5, 2, 1])
        nothing = filled(0, (1,))
        nothing.append(1)
        self.assertEqual(filled(0, (1,)), [])

    def test_the_same_is_told_again_behind_a_refusal(self):
        told = filled(41, (1, 7, 9))
        with self.assertRaises(BadRoom):
            filled(-1, (1, 7, 9))
        with self.assertRaises(BadFillers):
            filled(41, (7, 9))
        again = filled(41, (1, 7, 9))
        self.assertEqual(again, told)
        self.assertIsNot(again, told)

    def test_whole_numbers_in_a_list(self):
        told = filled(41, (1, 7, 9))
        self.assertIs(type(told), list)
        self.assertEqual({type(length) for length in told}, {int})


if __name__ == "__main__":
    unittest.main()
