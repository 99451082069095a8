"""What the program refuses."""


class TapeError(ValueError):
    """Any refusal."""


class BadSheet(TapeError):
    """What was handed in as a sheet is none."""


class BadSet(TapeError):
    """What was handed in as a set is neither 0 nor 1."""


class BadCount(TapeError):
    """A number or a place is outside of what is allowed for it."""


class BadTape(TapeError):
    """What was handed in as a tape is none; place is that of its first bad code."""

    def __init__(self, place):
        TapeError.__init__(self, f"no code of a tape stands at place {place}")
        self.place = place


class NoSign(TapeError):
    """A text can't be written with a sheet; place is that of its first bad sign."""

    def __init__(self, place):
        TapeError.__init__(self, f"no sign that can be written stands at place {place}")
        self.place = place


class BadText(TapeError):
    """No sheet is written so; row is the number of the first bad row."""

    def __init__(self, row):
        TapeError.__init__(self, f"row {row} is not as in a written sheet")
        self.row = row
