"""Rows on air, as the seconds go by and rows come late, go, and run over."""

from airtime.checking import check_task, is_row, is_whole
from airtime.errors import BadCount, BadPlace, BadRow, BadSecond, NoRow, NotLive
from airtime.laying import lay

MOST_LONGER = 120


def place_of(rows, number):
    """Tell the place of the row that has this id, None if none has it."""
    for at, row in enumerate(rows):
        if row[0] == number:
            return at
    return None


def moments_of(rows):
    """Tell the moments of rows, in their order."""
    return [row[3] for row in rows if row[3] is not None]


def stands_between(moment, ahead, behind):
    """Tell whether a row of this moment can stand behind some rows and ahead of others."""
    if moment is None:
        return True
    if any(earlier >= moment for earlier in moments_of(ahead)):
        return False
    return all(moment < later for later in moments_of(behind))


def shifted(then, now):
    """Tell (id, then, now), rising, of ids whose second is another one, of two dicts of seconds."""
    told = []
    for number in sorted(set(then) | set(now)):
        if then.get(number) != now.get(number):
            told.append((number, then.get(number), now.get(number)))
    return told


class Air:
    """What is on air, what was, and what is planned, from second 0 to the end."""

    def __init__(self, rows, fillers, end):
        check_task(rows, fillers, 0, end)
        self._fillers = tuple(fillers)
        self._end = end
        self._second = 0
        self._waiting = list(rows)
        self._known = [row[0] for row in rows]
        self._over = []
        self._put_on_next()

    def _put_on(self, begin, what):
        """Put on air what begins at this second; if it is a row, it waits no longer."""
        self._begin = begin
        self._what = what
        if isinstance(what, tuple):
            self._live = False
            self._until = begin + what[1]
        else:
            row = self._waiting.pop(place_of(self._waiting, what))
            self._live = row[1] == "live"
            self._until = begin + row[2]

    def _put_on_next(self):
        """Put on air what is laid first, from now on."""
        entries, _ = lay(self._waiting, self._fillers, self._second, self._end)
        begin, _, what = entries[0]
        self._put_on(begin, what)

    def _planned(self):
        """Tell what is on air and what is laid behind it, and the ids that would be left."""
        current = self.on()
        if current is None:
            return lay(self._waiting, self._fillers, self._end, self._end)
        entries, left = lay(self._waiting, self._fillers, current[1], self._end)
        return [current] + entries, left

    def _begins(self):
        """Tell, by their ids, the seconds at which rows begin that are on air or planned."""
        return {what: begin for begin, _, what in self.plan() if not isinstance(what, tuple)}

    def on(self):
        """Tell what is on air, (from, to, what), as it is planned now; None at the end."""
        if self._what is None:
            return None
        return (self._begin, min([self._until, self._end] + moments_of(self._waiting)), self._what)

    def now(self):
        """Tell the second."""
        return self._second

    def go(self, second):
        """Go on to a second, and tell all that is over by then, and wasn't."""
        if not is_whole(second, self._second, self._end):
            raise BadSecond(f"a second is from {self._second} to {self._end}")
        planned = self.plan()
        over = [entry for entry in planned if entry[1] <= second]
        # Nothing comes in between, so all goes as planned, up to the thing behind what is over.
        for begin, _, what in planned[1:len(over) + 1]:
            self._put_on(begin, what)
        if second == self._end:
            self._what = None
            self._live = False
        self._second = second
        self._over.extend(over)
        return over

    def longer(self, count):
        """Let the live row that is on air end so many seconds later, and tell what it shifts."""
        if not self._live:
            raise NotLive("no live row is on air")
        if not is_whole(count, 1, MOST_LONGER):
            raise BadCount(f"a count is 1 to {MOST_LONGER} seconds")
        then = self._begins()
        self._until += count
        return shifted(then, self._begins())

    def ended(self):
        """End the live row that is on air, put on the next thing, and tell what it shifts."""
        if not self._live:
            raise NotLive("no live row is on air")
        if self._begin == self._second:
            raise NotLive("the row that is on air began now")
        then = self._begins()
        # It isn't shifted: it is over.
        del then[self._what]
        self._over.append((self._begin, self._second, self._what))
        self._put_on_next()
        return shifted(then, self._begins())

    def _check_added(self, row, place):
        """Refuse a row that can't be added, and a place that is none, in the order of what is handed in."""
        if not is_row(row):
            raise BadRow("this is no row")
        if row[0] in self._known:
            raise BadRow("a row of this id was in the list")
        moment = row[3]
        if moment is not None and not self._second < moment < self._end:
            raise BadRow("a moment is later than now, and less than the end")
        if not is_whole(place, 0, len(self._waiting)):
            raise BadPlace(f"a place is 0 to {len(self._waiting)}")
        if not stands_between(moment, self._waiting[:place], self._waiting[place:]):
            raise BadRow("a moment is greater than those ahead, and less than those behind")

    def add(self, row, place):
        """Put a row among those that wait, ahead of that which has this place; tell what it shifts."""
        self._check_added(row, place)
        then = self._begins()
        self._known.append(row[0])
        self._waiting.insert(place, row)
        return shifted(then, self._begins())

    def remove(self, number):
        """Take out the row of this id, which waits, and tell what it shifts."""
        place = place_of(self._waiting, number)
        if place is None:
            raise NoRow("no row of this id waits")
        then = self._begins()
        del self._waiting[place]
        return shifted(then, self._begins())

    def plan(self):
        """Tell what is on air, and what is planned behind it, as (from, to, what)."""
        entries, _ = self._planned()
        return entries

    def left(self):
        """Tell the ids that would be left."""
        _, left = self._planned()
        return left

    def log(self):
        """Tell (from, to, what) of all that was on air and is over."""
        return list(self._over)
