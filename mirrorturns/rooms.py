"""Rooms, and the ways of beams through them."""

from mirrorturns.beams import port_places, run_beam
from mirrorturns.checks import check_port, check_tile
from mirrorturns.errors import InvalidRoom
from mirrorturns.mirrors import SIGNS, TURNING, tiles_with, turned


def fault_in_row(rows, number, allowed):
    """Returns the first invalid column of a row, or None.

    The rows before it are valid, and leave as many mirrors allowed to turn.
    """
    row = rows[number]
    if number == Room.MAX_SIZE or not isinstance(row, str) or not row:
        return 0
    width = min(len(rows[0]), Room.MAX_SIZE)
    for column, sign in enumerate(row):
        if column == width or sign not in SIGNS:
            return column
        if sign in TURNING:
            if allowed == 0:
                return column
            allowed = allowed - 1
    if len(row) < width:
        return len(row)
    return None


def check_rows(rows):
    """Raises InvalidRoom with the first invalid place of rows that make no room."""
    if not rows:
        raise InvalidRoom(0, 0)
    allowed = Room.MAX_TURNING
    for number, row in enumerate(rows):
        column = fault_in_row(rows, number, allowed)
        if column is not None:
            raise InvalidRoom(number, column)
        allowed = allowed - len(tiles_with([row], TURNING))


class Room:
    """A rectangle of tiles, some with a mirror. A room never changes."""

    MAX_SIZE = 8
    MAX_TURNING = 10

    def __init__(self, *rows):
        check_rows(rows)
        self._rows = rows
        self._places = port_places(len(rows), len(rows[0]))

    @classmethod
    def parse(cls, text):
        """Returns the room whose rows are the lines of a text."""
        if not isinstance(text, str):
            raise InvalidRoom(0, 0)
        rows = text.split("\n")
        return cls(*rows)

    @property
    def rows(self):
        """The tuple of the rows."""
        return self._rows

    @property
    def text(self):
        """The rows, joined by line feeds."""
        return "\n".join(self._rows)

    @property
    def size(self):
        """The numbers of rows and of columns."""
        return len(self._rows), len(self._rows[0])

    @property
    def turning(self):
        """The list of all tiles with a mirror that turns, in ascending order."""
        return tiles_with(self._rows, TURNING)

    def __call__(self, port):
        """Sends a beam in; returns the port at which it leaves, and the room afterwards."""
        check_port(self, port)
        _, place, rows = run_beam(self._rows, self._places[port])
        return self._places.index(place), Room(*rows)

    def __len__(self):
        return len(self._places)

    def __getitem__(self, at):
        check_tile(self, at)
        row, column = at
        return self._rows[row][column]

    def __iter__(self):
        # Without this, Python would walk a room by asking for room[0], room[1] ..
        raise TypeError("a room is not walked")

    def __bool__(self):
        return bool(tiles_with(self._rows, TURNING))

    def __eq__(self, other):
        return isinstance(other, Room) and self._rows == other._rows

    def __invert__(self):
        rows = ["".join([turned(sign) for sign in row]) for row in self._rows]
        return Room(*rows)


def with_sign(room, at, sign):
    """Returns the room with another sign on one tile."""
    row, column = at
    rows = list(room.rows)
    rows[row] = rows[row][:column] + sign + rows[row][column + 1:]
    return Room(*rows)


def path(room, port):
    """Yields the tiles that a beam passes, in order, as often as it passes them."""
    check_port(room, port)
    height, width = room.size
    places = port_places(height, width)
    tiles, _, _ = run_beam(room.rows, places[port])
    for tile in tiles:
        yield tile


def send(room, *ports):
    """Sends beams in, one after another.

    Returns the list of the ports at which they leave, and the room afterwards.
    """
    for port in ports:
        check_port(room, port)
    exits = []
    for port in ports:
        leaving, room = room(port)
        exits.append(leaving)
    return exits, room


def unsent(room, *exits):
    """Undoes beams that left at the given ports, the room being the one afterwards.

    Returns the list of the ports at which they came in, and the room before.
    """
    # In the room with all mirrors turned, a beam goes back the way that it came.
    backwards = exits[::-1]
    ports, turned_room = send(~room, *backwards)
    return ports[::-1], ~turned_room
