"""Rows laid behind one another, from a begin to an end, their moments kept."""

from airtime.checking import check_task
from airtime.filling import filled


def stretches(rows, begin, end):
    """Part the time into (from, to, the row of its moment or None, its rows without a moment)."""
    openings = [(begin, None, [])]
    for row in rows:
        if row[3] is None:
            openings[-1][2].append(row)
        else:
            openings.append((row[3], row, []))
    stops = [opening[0] for opening in openings[1:]] + [end]
    return [(start, stop, opener, own) for (start, opener, own), stop in zip(openings, stops)]


def most_that_fit(rows, room):
    """Tell how many of the rows have room together, at the most."""
    many = 0
    for length in sorted([row[2] for row in rows]):
        room -= length
        if room < 0:
            break
        many += 1
    return many


def parted(rows, room):
    """Part rows into those that have room and those that are moved, as few as can be."""
    most = most_that_fit(rows, room)
    kept = []
    moved = []
    for at, row in enumerate(rows):
        rest = room - row[2]
        # A row is moved only where by keeping it fewer rows would be kept in all.
        if rest >= 0 and len(kept) + 1 + most_that_fit(rows[at + 1:], rest) == most:
            kept.append(row)
            room = rest
        else:
            moved.append(row)
    return kept, moved


def one_behind_the_other(start, pieces):
    """Tell (from, to, what) of pieces (what, length), the first one from the start."""
    aired = []
    second = start
    for what, length in pieces:
        aired.append((second, second + length, what))
        second += length
    return aired


def lay_stretch(start, stop, opener, rows, fillers):
    """Tell what is aired in a stretch, and the rows that are moved out of it."""
    pieces = []
    room = stop - start
    if opener is not None:
        length = min(opener[2], room)
        pieces.append((opener[0], length))
        room -= length
    kept, moved = parted(rows, room)
    for row in kept:
        pieces.append((row[0], row[2]))
        room -= row[2]
    for length in filled(room, fillers):
        pieces.append((("fill", length), length))
    return one_behind_the_other(start, pieces), moved


def lay(rows, fillers, begin, end):
    """Tell what `laid` tells, of what is checked; the begin may be the end, and the rows any number."""
    aired = []
    moved = []
    for start, stop, opener, own in stretches(rows, begin, end):
        entries, moved = lay_stretch(start, stop, opener, moved + own, fillers)
        aired.extend(entries)
    return aired, [row[0] for row in moved]


def laid(rows, fillers, begin, end):
    """Tell what is aired from the begin to the end, and the ids that are left."""
    check_task(rows, fillers, begin, end)
    return lay(rows, fillers, begin, end)
