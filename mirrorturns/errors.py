"""The errors that the package raises."""


class MirrorError(ValueError):
    """The base class of all errors that the package raises."""


class InvalidRoom(MirrorError):
    """Rows that make no room, with the row and the column of the first invalid place."""

    def __init__(self, row, column):
        super().__init__(f"no valid room: row {row}, column {column}")
        self.row = row
        self.column = column


class UnknownPort(MirrorError):
    """A value that is not a port of the room."""


class UnknownTile(MirrorError):
    """A value that is not a tile of the room."""


class InvalidNumber(MirrorError):
    """A value that is not a number of beams within the limits."""


class OtherRoom(MirrorError):
    """Two rooms that do not belong together."""


class TooMany(MirrorError):
    """A room in which too many mirrors turn."""


class Contradiction(MirrorError):
    """An observation that no sign of the hidden tile allows."""


class NotTurning(MirrorError):
    """A tile without a mirror that turns."""


class InvalidName(MirrorError):
    """A value that is not a name for a snapshot."""


class UnknownName(MirrorError):
    """A name without a snapshot."""


class InvalidOperation(MirrorError):
    """A list with an invalid operation, with the place of the first one."""

    def __init__(self, place):
        super().__init__(f"no valid operation: place {place}")
        self.place = place
