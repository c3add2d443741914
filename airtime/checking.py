"""What rows, fillers, rooms, ends and logs are, and the refusal of what is none."""

from airtime.errors import BadEnd, BadFillers, BadLog, BadRoom, BadRows

MOST_SECONDS = 900
MOST_ROWS = 30
MOST_ENTRIES = 2000
MOST_FILLERS = 6
GREATEST_ID = 99
LONGEST_ROW = 120
LONGEST_FILLER = 60
KINDS = ("clip", "live")


def is_whole(number, least, most):
    """Tell whether something is a number from least to most."""
    # True and False would pass for 1 and 0, but they are no numbers here.
    if not isinstance(number, int) or isinstance(number, bool):
        return False
    return least <= number <= most


def is_row(row):
    """Tell whether something is a row, whatever stands ahead of it."""
    if not isinstance(row, tuple) or len(row) != 4:
        return False
    number, kind, length, moment = row
    if not is_whole(number, 0, GREATEST_ID) or kind not in KINDS:
        return False
    if not is_whole(length, 1, LONGEST_ROW):
        return False
    return moment is None or is_whole(moment, 0, MOST_SECONDS - 1)


def is_filler(what):
    """Tell whether something is ("fill", length), whatever fillers there are."""
    if not isinstance(what, tuple) or len(what) != 2:
        return False
    return what[0] == "fill" and is_whole(what[1], 1, LONGEST_FILLER)


def is_entry(entry):
    """Tell whether something is an entry of a log, whether it can be or not."""
    if not isinstance(entry, tuple) or len(entry) != 3:
        return False
    start, stop, what = entry
    if not is_whole(start, 0, MOST_SECONDS) or not is_whole(stop, 0, MOST_SECONDS):
        return False
    return is_filler(what) or is_whole(what, 0, GREATEST_ID)


def check_room(room):
    """Refuse a room that is out of its range."""
    if not is_whole(room, 0, MOST_SECONDS):
        raise BadRoom(f"a room is 0 to {MOST_SECONDS} seconds")


def check_end(end):
    """Refuse an end that is out of its range."""
    if not is_whole(end, 1, MOST_SECONDS):
        raise BadEnd(f"an end is 1 to {MOST_SECONDS}")


def check_span(begin, end):
    """Refuse an end that is out of its range, and a begin that is not ahead of it."""
    check_end(end)
    if not is_whole(begin, 0, end - 1):
        raise BadEnd("a begin is from 0 to less than the end")


def check_fillers(fillers):
    """Refuse fillers that are not one to six rising lengths, 1 first, none above 60."""
    if not 1 <= len(fillers) <= MOST_FILLERS:
        raise BadFillers(f"fillers are 1 to {MOST_FILLERS} lengths")
    if fillers[0] != 1:
        raise BadFillers("the first filler is 1")
    longest = 0
    for length in fillers:
        if not is_whole(length, longest + 1, LONGEST_FILLER):
            raise BadFillers(f"fillers rise to at most {LONGEST_FILLER}")
        longest = length


def check_rows(rows, begin, end):
    """Refuse rows that can't be aired from the begin to the end, by the first one that can't."""
    ahead = []
    earliest = begin
    for at, row in enumerate(rows):
        if at >= MOST_ROWS or not is_row(row):
            raise BadRows(at)
        if row[0] in ahead:
            raise BadRows(at)
        ahead.append(row[0])
        moment = row[3]
        if moment is not None:
            if not earliest <= moment < end:
                raise BadRows(at)
            earliest = moment + 1


def check_task(rows, fillers, begin, end):
    """Refuse what can't be laid: an end or a begin ahead of rows, and these ahead of fillers."""
    check_span(begin, end)
    check_rows(rows, begin, end)
    check_fillers(fillers)


def check_log(log):
    """Refuse a log by the first entry that is none."""
    for at, entry in enumerate(log):
        if at >= MOST_ENTRIES or not is_entry(entry):
            raise BadLog(at)
