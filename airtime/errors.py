"""What the program refuses, one class for each kind of refusal."""


class AirError(ValueError):
    """Any refusal."""


class BadEnd(AirError):
    """An end, or a begin, that is out of its range."""


class BadFillers(AirError):
    """Fillers that are not one to six rising lengths, 1 first, none above 60."""


class BadRoom(AirError):
    """A room that is out of its range."""


class BadSecond(AirError):
    """A second that is behind now or past the end."""


class BadCount(AirError):
    """A count of seconds that is out of its range."""


class NotLive(AirError):
    """What is on air is no live row that this can be asked of."""


class BadRow(AirError):
    """A row that can't be put where it is to stand."""


class BadPlace(AirError):
    """A place that is none among the rows that wait."""


class NoRow(AirError):
    """No row of this id waits."""


class BadRows(AirError):
    """A list of rows; `at` is the place of the first one that is refused."""

    def __init__(self, at):
        self.at = at


class BadLog(AirError):
    """A log; `at` is the place of the first entry that is none."""

    def __init__(self, at):
        self.at = at


class BadText(AirError):
    """A text; `line` is the number of the first line that is no row by its form."""

    def __init__(self, line):
        self.line = line
