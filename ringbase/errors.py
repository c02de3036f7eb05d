"""The refusals: one class each, all of them straight under RingError."""


class RingError(ValueError):
    """Any refusal."""


class BadWeb(RingError):
    """What makes no web."""


class BadSet(RingError):
    """A number that is no set of the web's ties, or no tie of it."""


class BadPoint(RingError):
    """A number that is no point, or a list that is no side."""


class NotRing(RingError):
    """A set that is no ring."""


class NoChord(RingError):
    """A number that is no chord."""


class NoBase(RingError):
    """A list of rings that is no base."""


class NoSuch(RingError):
    """A number beyond those that there are."""


class TooMany(RingError):
    """A web too large for what is asked."""


class BadRow(RingError):
    """A row that has not a number for each tie."""


class NoDeed(RingError):
    """A deed that can't be done."""


class NotEven(RingError):
    """A set that is not even; `point` is the least point that is odd in it."""

    def __init__(self, words, point):
        RingError.__init__(self, words)
        self.point = point


class NoText(RingError):
    """A text that is no page; `row` is the first row, from 1 on, that can't stand there."""

    def __init__(self, words, row):
        RingError.__init__(self, words)
        self.row = row
