"""Points 6 to 10 over whole days that are drawn from a fixed start, against an Air that goes second by second."""

import copy
import random
import unittest

from airtime.air import Air
from airtime.errors import AirError
from airtime.judging import judged
from airtime.laying import laid


class TrialAir:
    """An Air as the document tells it, without a plan: what is planned is found by trying it."""

    def __init__(self, rows, fillers, end):
        self.fillers = fillers
        self.end = end
        self.second = 0
        self.waiting = list(rows)
        self.ever = list(rows)
        self.over = []
        self.put_on()

    def put_on(self):
        self.begin = self.second
        self.what = laid(self.waiting, self.fillers, self.second, self.end)[0][0][2]
        if isinstance(self.what, tuple):
            self.length = self.what[1]
        else:
            self.length = [row for row in self.waiting if row[0] == self.what][0][2]
        self.waiting = [row for row in self.waiting if row[0] != self.what]

    def kind(self):
        return {row[0]: row[1] for row in self.ever}.get(self.what)

    def stop(self):
        return min([self.begin + self.length, self.end] + [row[3] for row in self.waiting if row[3] is not None])

    def close(self):
        self.over.append((self.begin, self.second, self.what))
        self.what = None
        if self.second < self.end:
            self.put_on()

    def on(self):
        return None if self.second == self.end else (self.begin, self.stop(), self.what)

    def go(self, second):
        assert self.second <= second <= self.end
        many = len(self.over)
        while self.second < second:
            stop = self.stop()
            self.second += 1
            if self.second == stop:
                self.close()
        return self.over[many:]

    def tried(self):
        """Another one, at the end, where nothing came."""
        other = copy.deepcopy(self)
        other.over = []
        other.go(self.end)
        return other

    def plan(self):
        return self.tried().over

    def left(self):
        return [row[0] for row in self.tried().waiting]

    def log(self):
        return list(self.over)

    def now(self):
        return self.second

    def begins(self):
        return {entry[2]: entry[0] for entry in self.plan()}

    def shifted(self, then, but=None):
        now = self.begins()
        ids = [row[0] for row in self.ever if row[0] != but]
        return [(number, then.get(number), now.get(number)) for number in sorted(ids)
                if then.get(number) != now.get(number)]

    def longer(self, count):
        assert self.kind() == "live" and 1 <= count <= 120
        then = self.begins()
        self.length += count
        return self.shifted(then)

    def ended(self):
        assert self.kind() == "live" and self.begin < self.second
        then = self.begins()
        number = self.what
        self.close()
        return self.shifted(then, number)

    def add(self, row, place):
        assert row[0] not in [one[0] for one in self.ever]
        assert 0 <= place <= len(self.waiting)
        assert row[3] is None or self.second < row[3] < self.end
        rows = self.waiting[:place] + [row] + self.waiting[place:]
        moments = [one[3] for one in rows if one[3] is not None]
        assert moments == sorted(set(moments))
        then = self.begins()
        self.waiting = rows
        self.ever.append(row)
        return self.shifted(then)

    def remove(self, number):
        assert number in [row[0] for row in self.waiting]
        then = self.begins()
        self.waiting = [row for row in self.waiting if row[0] != number]
        return self.shifted(then)


def drawn_day(dice):
    end = dice.randint(1, 50)
    moments = sorted(dice.sample(range(end), dice.randint(0, min(3, end))))
    ids = dice.sample(range(100), 12)
    kinds = ("clip", "live", "live")
    rows = [(number, dice.choice(kinds), dice.randint(1, 12), None) for number in ids[:dice.randint(0, 6)]]
    places = sorted(dice.randint(0, len(rows)) for _ in moments)
    for at, (place, moment) in enumerate(zip(places, moments)):
        rows.insert(place + at, (ids[-1 - at], dice.choice(kinds), dice.randint(1, 15), moment))
    fillers = (1,) + tuple(sorted(dice.sample(range(2, 12), dice.randint(0, 4))))
    return rows, fillers, end


def drawn_step(dice, second, end):
    word = dice.choice(("go", "go", "go", "longer", "ended", "add", "add", "remove"))
    if word == "go":
        return word, min(second + dice.choice((0, 1, 1, 2, 3, 8)), end + dice.randint(0, 1))
    if word == "longer":
        return word, dice.choice((0, 1, 2, 3, 5, 9, 120, 121))
    if word == "ended":
        return (word,)
    if word == "add":
        moment = dice.choice((None, None, dice.randint(0, end)))
        row = (dice.randint(0, 99), dice.choice(("clip", "live")), dice.randint(1, 10), moment)
        return word, row, dice.randint(-1, 7)
    return word, dice.randint(0, 99)


def handed(step, air, dice):
    """A step, but mostly removes what waits."""
    waiting = [entry[2] for entry in air.plan()[1:] if isinstance(entry[2], int)] + air.left()
    if step[0] == "remove" and waiting and dice.random() < 0.8:
        return step[0], dice.choice(waiting)
    return step


class Days(unittest.TestCase):
    def do_both(self, air, trial, step):
        """Do a step on both, and tell whether it was refused."""
        try:
            told = getattr(trial, step[0])(*step[1:])
        except AssertionError:
            same = self.all_told(air)
            with self.assertRaises(AirError):
                getattr(air, step[0])(*step[1:])
            self.assertEqual(self.all_told(air), same)
            return True
        self.assertEqual(getattr(air, step[0])(*step[1:]), told)
        self.assertEqual(self.all_told(air), self.all_told(trial))
        return False

    def all_told(self, air):
        return air.on(), air.now(), air.plan(), air.left(), air.log()

    def check_over(self, air, trial, fillers, gone):
        """Point 9, of an Air at the end."""
        log = air.log()
        self.assertEqual([entry[0] for entry in log] + [trial.end], [0] + [entry[1] for entry in log])
        self.assertTrue(all(entry[0] < entry[1] for entry in log))
        rows = {row[0]: row for row in trial.ever if row[0] not in gone}
        moments = {row[3]: number for number, row in rows.items() if row[3] is not None}
        self.assertEqual({start: what for start, _, what in log if start in moments}, moments)
        aired = [what for _, _, what in log if isinstance(what, int)]
        self.assertEqual(len(aired), len(set(aired)))
        self.assertEqual(sorted(aired + air.left()), sorted(rows))
        for start, stop, what in log:
            if isinstance(what, int) and rows[what][1] == "live":
                continue
            length = rows[what][2] if isinstance(what, int) else what[1]
            self.assertTrue(stop - start == length or stop in moments or stop == trial.end)
            self.assertLessEqual(stop - start, length)

    def test_where_nothing_comes_all_goes_as_planned(self):
        dice = random.Random(6)
        for _ in range(150):
            rows, fillers, end = drawn_day(dice)
            with self.subTest(rows=rows, fillers=fillers, end=end):
                air = Air(rows, fillers, end)
                plan = air.plan()
                left = air.left()
                self.assertEqual((plan, left), laid(rows, fillers, 0, end))
                for second in range(end + 1):
                    air.go(second)
                    self.assertEqual(air.log() + air.plan(), plan)
                    self.assertEqual(air.left(), left)
                self.assertEqual(Air(rows, fillers, end).go(end), plan)
                self.assertIsNone(judged(rows, fillers, end, plan))

    def test_whatever_comes(self):
        dice = random.Random(7)
        refused = 0
        done = 0
        for _ in range(250):
            rows, fillers, end = drawn_day(dice)
            air = Air(rows, fillers, end)
            trial = TrialAir(rows, fillers, end)
            gone = []
            steps = []
            for _ in range(25):
                step = handed(drawn_step(dice, air.now(), end), air, dice)
                steps.append(step)
                with self.subTest(rows=rows, fillers=fillers, end=end, steps=steps):
                    if self.do_both(air, trial, step):
                        refused += 1
                        continue
                    done += 1
                    if step[0] == "remove":
                        gone.append(step[1])
            with self.subTest(rows=rows, fillers=fillers, end=end, steps=steps):
                self.assertFalse(self.do_both(air, trial, ("go", end)))
                self.check_over(air, trial, fillers, gone)
                kept = sorted([row for row in trial.ever if row[0] not in gone], key=lambda row: row[3] or -1)
                log = air.log()
                for many in range(len(log) + 1):
                    self.assertIsNone(judged(kept, fillers, end, log[:many]))
        # Steps that were all refused, or all let, would show little.
        self.assertGreater(refused, 500)
        self.assertGreater(done, 2000)


if __name__ == "__main__":
    unittest.main()
