"""Rows as texts, a line each."""

from airtime.checking import MOST_SECONDS, check_rows, is_row
from airtime.errors import BadText

MOST_FIGURES = 3


def line_of(row):
    """Tell the line that a row is written as."""
    number, kind, length, moment = row
    line = f"{number} {kind} {length}"
    if moment is None:
        return line
    return f"{line} {moment}"


def written(rows):
    """Tell the text that rows are written as."""
    # No end is told here, so a moment is less than the greatest one.
    check_rows(rows, 0, MOST_SECONDS)
    return "\n".join([line_of(row) for row in rows])


def number_of(word):
    """Tell the number that a word is, None if it is none by its form."""
    if len(word) > MOST_FIGURES or not word.isascii() or not word.isdigit():
        return None
    if word[0] == "0" and len(word) > 1:
        return None
    return int(word)


def row_of(line):
    """Tell the row that is written as this line, None if none is."""
    words = line.split(" ")
    if len(words) != 3 and len(words) != 4:
        return None
    moment = None
    if len(words) == 4:
        moment = number_of(words[3])
        # A row without a moment has no fourth word.
        if moment is None:
            return None
    row = (number_of(words[0]), words[1], number_of(words[2]), moment)
    if not is_row(row):
        return None
    return row


def read(text):
    """Tell the rows that are written as this text."""
    if text == "":
        return []
    rows = []
    for at, line in enumerate(text.split("\n")):
        row = row_of(line)
        if row is None:
            raise BadText(at)
        rows.append(row)
    return rows
