"""The errors of the package, one class for each kind of failure."""


class FlushError(ValueError):
    """Any error of the package."""


class ParseError(FlushError):
    """A text is no text of a log; line is the index of the line that is at fault."""

    def __init__(self, line):
        super().__init__(f"line {line} is not as it must be")
        self.line = line


class CannotBe(FlushError):
    """An event can not be where the run stands."""


class DuplicateName(FlushError):
    """A name is in use."""


class InvalidCell(FlushError):
    """An object is no cell."""


class InvalidEvent(FlushError):
    """An object is none of the events for which there are cells."""


class InvalidFault(FlushError):
    """An object is no fault, or no list of faults."""


class InvalidIndex(FlushError):
    """An object is no index of a write."""


class InvalidLine(FlushError):
    """An object is no line of the shell."""


class InvalidLog(FlushError):
    """An object is no log."""


class InvalidName(FlushError):
    """A word is no name."""


class InvalidPlace(FlushError):
    """An object is none of the places that are asked for."""


class InvalidRun(FlushError):
    """An object is no run of the log."""


class InvalidStanding(FlushError):
    """An object is no standing."""


class InvalidStory(FlushError):
    """An object is no list, and so no story."""


class InvalidTable(FlushError):
    """An object is no table."""


class NothingToUndo(FlushError):
    """There is no event that could be taken back."""


class UnknownLog(FlushError):
    """No live log has the name."""
