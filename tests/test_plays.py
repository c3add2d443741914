"""Point 12: whole plays. Point 1 for `played`; the order of its refusals."""

import copy
import unittest

from airtime.air import Air
from airtime.errors import AirError, BadEnd, BadFillers, BadRows
from airtime.plays import played

FIVES = (1, 5)
ROWS = [(1, "clip", 4, None), (2, "live", 3, None), (7, "live", 5, 12), (3, "clip", 2, None)]
LATE = (50, "clip", 1, None)


def all_told(air):
    return air.on(), air.now(), air.plan(), air.left(), air.log()


class Played(unittest.TestCase):
    def test_no_steps(self):
        told, air = played(ROWS, FIVES, 30, [])
        self.assertEqual(told, [])
        self.assertIs(type(air), Air)
        self.assertEqual(all_told(air), all_told(Air(ROWS, FIVES, 30)))

    def test_each_step(self):
        told, air = played(ROWS, FIVES, 30, [
            ("go", 5), ("longer", 2), ("add", LATE, 1), ("remove", 3), ("ended",), ("go", 13),
        ])
        self.assertEqual(told, [
            [(0, 4, 1)], [], [(3, 17, 18), (50, None, 17)], [(3, 18, None)], [],
            [(5, 10, ("fill", 5)), (10, 11, ("fill", 1)), (11, 12, ("fill", 1))],
        ])
        self.assertEqual(air.now(), 13)

    def test_each_step_alone(self):
        self.assertEqual(played(ROWS, FIVES, 30, [("go", 5)])[0], [[(0, 4, 1)]])
        self.assertEqual(played(ROWS, FIVES, 30, [("go", 13), ("longer", 3)])[0][1], [(3, 17, 20)])
        self.assertEqual(played(ROWS, FIVES, 30, [("go", 13), ("ended",)])[0][1], [(3, 17, 13)])
        self.assertEqual(played(ROWS, FIVES, 30, [("add", LATE, 0)])[0], [[(2, 4, 5), (50, None, 4)]])
        self.assertEqual(played(ROWS, FIVES, 30, [("add", LATE, 3)])[0], [[(50, None, 19)]])
        self.assertEqual(played(ROWS, FIVES, 30, [("remove", 7)])[0], [[(3, 17, 7), (7, 12, None)]])

    def test_as_an_air_does(self):
        steps = [
            ("go", 2), ("add", LATE, 0), ("go", 6), ("longer", 1), ("remove", 3), ("go", 7), ("ended",), ("go", 30),
        ]
        told, air = played(ROWS, FIVES, 30, steps)
        other = Air(ROWS, FIVES, 30)
        self.assertEqual(told, [getattr(other, step[0])(*step[1:]) for step in steps])
        self.assertEqual(all_told(air), all_told(other))

    def test_refused_steps_among_others(self):
        told, air = played(ROWS, FIVES, 30, [
            ("ended",), ("go", 13), ("go", 12), ("longer", 121), ("longer", 3), ("add", (3, "clip", 5, None), 0),
            ("add", LATE, 2), ("remove", 7), ("go", 31), ("go", 14),
        ])
        self.assertEqual(told, [
            "no", [(0, 4, 1), (4, 7, 2), (7, 12, ("fill", 5))], "no", "no", [(3, 17, 20)], "no",
            "no", "no", "no", [],
        ])
        other = Air(ROWS, FIVES, 30)
        other.go(14)
        other.longer(3)
        self.assertEqual(all_told(air), all_told(other))

    def test_each_step_refused_alone(self):
        for step in (
            ("go", -1), ("go", 31), ("longer", 1), ("longer", 0), ("ended",), ("add", (), 0), ("add", LATE, 4),
            ("remove", 1),
        ):
            with self.subTest(step):
                told, air = played(ROWS, FIVES, 30, [step])
                self.assertEqual(told, ["no"])
                self.assertEqual(all_told(air), all_told(Air(ROWS, FIVES, 30)))

    def test_the_air_goes_on(self):
        _, air = played(ROWS, FIVES, 30, [("go", 5)])
        self.assertEqual(air.longer(2), [])
        self.assertEqual(air.go(9), [(4, 9, 2)])
        self.assertEqual(air.add(LATE, 0), [(50, None, 10)])

    def test_the_order_of_refusals(self):
        wrong = [(100, "clip", 5, None)]
        for refusal, handed in (
            (BadEnd, (wrong, (), 0)), (BadEnd, (ROWS, (), 901)), (BadRows, (wrong, (), 30)),
            (BadFillers, (ROWS, (), 30)),
        ):
            for steps in ([], [("go", -1)], [("go", 3)]):
                with self.subTest(refusal), self.assertRaises(AirError) as caught:
                    played(*handed, steps)
                self.assertIs(type(caught.exception), refusal)

    def test_what_is_handed_in_is_not_changed(self):
        rows = list(ROWS)
        steps = [("go", 5), ("longer", 2), ("add", LATE, 1), ("remove", 3), ("go", 3), ("ended",), ("go", 30)]
        same = copy.deepcopy(steps)
        _, air = played(rows, FIVES, 30, steps)
        self.assertEqual((rows, steps), (ROWS, same))
        told = all_told(air)
        rows.clear()
        steps.clear()
        self.assertEqual(all_told(air), told)

    def test_what_is_told_may_be_changed(self):
        steps = [("go", 5), ("add", LATE, 0), ("go", 30)]
        told, air = played(ROWS, FIVES, 30, steps)
        same = copy.deepcopy((told, all_told(air)))
        for answer in told:
            answer.clear()
        told.append("no")
        self.assertEqual(all_told(air), same[1])
        self.assertEqual(played(ROWS, FIVES, 30, steps)[0], same[0])

    def test_kinds_of_what_is_told(self):
        told = played(ROWS, FIVES, 30, [("go", 5), ("go", 4)])
        self.assertIs(type(told), tuple)
        self.assertEqual([type(part) for part in told], [list, Air])
        self.assertEqual([type(answer) for answer in told[0]], [list, str])
        self.assertEqual(played.__module__, "airtime.plays")


if __name__ == "__main__":
    unittest.main()
