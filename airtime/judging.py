"""Logs, judged: the first entry that can't be."""

from airtime.checking import check_log, check_task


def is_whole_or_cut(time, length, cut):
    """Tell whether a time is a length, or less, where something cut it."""
    return time == length or (time < length and cut)


def keeps_moments(entry, moments):
    """Tell whether an entry takes no row's moment, but the own one, of a dict of ids by moments."""
    start, stop, what = entry
    if start in moments and moments[start] != what:
        return False
    return not any(start < moment < stop for moment in moments)


def is_right_filler(entry, fillers, cut):
    """Tell whether the filler of an entry is one that there is, aired as long as it is to be."""
    start, stop, (_, length) = entry
    return length in fillers and is_whole_or_cut(stop - start, length, cut)


def is_right_row(entry, waiting, cut):
    """Tell whether the row of an entry is one that waits, aired when and as long as it is to be."""
    start, stop, number = entry
    if number not in waiting:
        return False
    _, kind, length, moment = waiting[number]
    if moment is not None and moment != start:
        return False
    return kind == "live" or is_whole_or_cut(stop - start, length, cut)


def can_be(entry, waiting, fillers, moments, end):
    """Tell whether an entry can be, wherever it is from, of a dict of rows that weren't ahead."""
    start, stop, what = entry
    if not start < stop <= end or not keeps_moments(entry, moments):
        return False
    cut = stop == end or stop in moments
    if isinstance(what, tuple):
        return is_right_filler(entry, fillers, cut)
    return is_right_row(entry, waiting, cut)


def judged(rows, fillers, end, log):
    """Tell the number of the first entry that can't be, None if all can."""
    check_task(rows, fillers, 0, end)
    check_log(log)
    waiting = {row[0]: row for row in rows}
    moments = {row[3]: row[0] for row in rows if row[3] is not None}
    second = 0
    for at, entry in enumerate(log):
        start, stop, what = entry
        if start != second or not can_be(entry, waiting, fillers, moments, end):
            return at
        if not isinstance(what, tuple):
            del waiting[what]
        second = stop
    return None
