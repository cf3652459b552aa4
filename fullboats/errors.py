"""The errors of the package.

An error with attributes takes them in the order in which the document lists them.
"""


class FerryError(ValueError):
    """Base class of all errors of the package."""


class InvalidNetwork(FerryError):
    """Tells the first invalid station and its first invalid seat, or -1."""

    def __init__(self, station, seat):
        self.station = station
        self.seat = seat


class InvalidState(FerryError):
    """A state that is not one of its network."""


class InvalidCount(FerryError):
    """A number that is out of its range."""


class UnknownStation(FerryError):
    """A station that the network does not have."""


class UnknownSeat(FerryError):
    """A seat that the station does not have."""


class UnknownPort(FerryError):
    """A port that cannot be reached."""


class UnknownPassenger(FerryError):
    """A passenger who is not one of those that are asked for."""


class EmptyBoat(FerryError):
    """A boat for which nobody waits."""


class InvalidRates(FerryError):
    """Rates that have the wrong form or are not valid."""


class InvalidLengths(FerryError):
    """Queue lengths that are not possible."""


class InvalidPassengers(FerryError):
    """Passengers whose number is wrong, or one of whom is negative."""


class TooManyCandidates(FerryError):
    """A network that has too many tuples of queue lengths."""


class Contradiction(FerryError):
    """An observation that no candidate agrees with."""


class InvalidName(FerryError):
    """Tells the name that a checkpoint cannot have."""

    def __init__(self, name):
        self.name = name


class UnknownCheckpoint(FerryError):
    """Tells the name that no checkpoint has."""

    def __init__(self, name):
        self.name = name


class InvalidOperation(FerryError):
    """Tells the index of the operation that is none."""

    def __init__(self, index):
        self.index = index


class InvalidEntry(FerryError):
    """Tells the index of the journal's entry that is none or fails."""

    def __init__(self, index):
        self.index = index


class ScriptSyntaxError(FerryError):
    """Tells the row and the column at which a script stops being one."""

    def __init__(self, row, column):
        self.row = row
        self.column = column


class InvalidText(FerryError):
    """Tells the row of the first line that is not formed as it must be."""

    def __init__(self, row):
        self.row = row


class InvalidData(FerryError):
    """Tells the offset at which bytes stop being an encoding."""

    def __init__(self, offset):
        self.offset = offset
