"""Checks of arguments: ports, tiles and numbers of beams."""

from mirrorturns.errors import InvalidNumber, UnknownPort, UnknownTile

MAX_BEAMS = 10 ** 18


def is_number(value, lowest, highest):
    """Tells whether a value is an integer within limits."""
    # True and False are instances of int, but no integers here.
    if isinstance(value, bool) or not isinstance(value, int):
        return False
    return lowest <= value <= highest


def check_port(room, port):
    """Raises UnknownPort for anything that is not a port of a room."""
    if not is_number(port, 0, len(room) - 1):
        raise UnknownPort("no such port")


def check_tile(room, at):
    """Raises UnknownTile for anything that is not a tile of a room."""
    height, width = room.size
    if not isinstance(at, tuple) or len(at) != 2:
        raise UnknownTile("no row and column")
    if not is_number(at[0], 0, height - 1) or not is_number(at[1], 0, width - 1):
        raise UnknownTile("no such tile")


def check_beams(number, lowest):
    """Raises InvalidNumber for anything that is not a number of beams, from the lowest one on."""
    if not is_number(number, lowest, MAX_BEAMS):
        raise InvalidNumber("no such number of beams")
