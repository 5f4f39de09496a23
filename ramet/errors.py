"""The errors that the program raises."""


class RametError(ValueError):
    """The base class of all errors of the program."""


class NotWritten(RametError):
    """A state, or a number, is none of the written states."""


class BadMachine(RametError):
    """A machine's numbers or rows are wrong, or two machines do not fit together."""


class BadWord(RametError):
    """A word does not have the bits that a machine reads."""


class BadText(RametError):
    """A text is not the text of a machine; `line` is the number of the line that is wrong."""

    def __init__(self, line):
        self.line = line


class NotNet(RametError):
    """A pattern has a state that is none of a net."""


class TwoGivers(RametError):
    """Two outlets of a net lead to one inlet."""


class TooMany(RametError):
    """There are more words, or more machines, than there may be."""


class NotThere(RametError):
    """A layout shows no output bit at the place where it should stand."""


class BadTape(RametError):
    """A value is not a tape, a line is not the text of one, or a tape would be too long."""


class NoRoom(RametError):
    """Something would lie outside of the places that may be used."""


class InTheWay(RametError):
    """A walk is refused because something is in its way."""


class BadRing(RametError):
    """A ring cannot have this number of cells."""


class NotOwn(RametError):
    """A tape is not its own, or has PORT where it must have STOP."""


class NotStill(RametError):
    """A pattern that must be still is not."""


class Crowded(RametError):
    """Two things are too near to each other."""


class Loaded(RametError):
    """A cell could give a symbol where none may come from."""


class BadWall(RametError):
    """A cell is not a wall, or a wall stands in the body of a machine."""


class NotQuiet(RametError):
    """A family is not quiet at this time."""


class NoSuchKin(RametError):
    """There is no machine with this number."""


class NotPart(RametError):
    """A lost cell is not a cell of the whole pattern."""


class NotNetCell(RametError):
    """A lost cell is not a cell that a neighbour may put back."""


class Touched(RametError):
    """A cell that is not lost would be touched by a repair."""
