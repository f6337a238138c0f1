"""The refusals of Drumlay."""


class DrumError(ValueError):
    """Any refusal."""


class BadProgram(DrumError):
    """What is handed in is no program: the number of the row, or -1, and why."""

    def __init__(self, row, why):
        DrumError.__init__(self, f"no program, row {row}: {why}")
        self.row = row
        self.why = why


class BadLaying(DrumError):
    """What is handed in is no laying of the program: why, and the number of the row or worth."""

    def __init__(self, why, at):
        DrumError.__init__(self, f"no laying, {why} at {at}")
        self.why = why
        self.at = at


class BadFuel(DrumError):
    """The fuel is too little or too much."""


class BadGoes(DrumError):
    """No way from row 0 to a stop goes like this."""


class BadPaper(DrumError):
    """A tuple of a paper can't stand there: its number."""

    def __init__(self, at):
        DrumError.__init__(self, f"no paper, tuple {at}")
        self.at = at


class TooMany(DrumError):
    """There are more things to look at than Drumlay takes."""


class Over(DrumError):
    """The drum has stopped."""


class BadText(DrumError):
    """The text is not that of a program: the number of the line."""

    def __init__(self, line):
        DrumError.__init__(self, f"no program's text, line {line}")
        self.line = line
