"""What beams tell of a tile that nobody sees."""

from mirrorturns.checks import check_port, check_tile
from mirrorturns.errors import Contradiction, TooMany, UnknownPort
from mirrorturns.mirrors import SIGNS
from mirrorturns.rooms import Room, with_sign


def check_observation(room, beam):
    """Raises UnknownPort for anything that is not a tuple of two ports of a room."""
    if not isinstance(beam, tuple) or len(beam) != 2:
        raise UnknownPort("no tuple of two ports")
    port, leaving = beam
    check_port(room, port)
    check_port(room, leaving)


def rooms_that_agree(rooms, port, leaving):
    """Returns those of several rooms that a beam leaves at a port, as they are afterwards.

    Before and after, each room is told by the sign that its hidden tile had at first.
    """
    agreeing = {}
    for sign, room in rooms.items():
        found, after = room(port)
        if found == leaving:
            agreeing[sign] = after
    return agreeing


class Observer:
    """Sends beams through a room of which one tile is hidden."""

    def __init__(self, room, at):
        check_tile(room, at)
        if len(with_sign(room, at, ".").turning) >= Room.MAX_TURNING:
            raise TooMany("too many mirrors turn on other tiles")
        self._room = room
        self._rooms = {sign: with_sign(room, at, sign) for sign in SIGNS}
        self._history = []

    def see(self, port, leaving):
        """Observes a beam; returns how many signs the tile can have had at first."""
        return self.see_all((port, leaving))

    def see_all(self, *beams):
        """Observes beams, all or none; returns how many signs the tile can have had at first."""
        rooms = self._rooms
        for beam in beams:
            check_observation(self._room, beam)
            port, leaving = beam
            rooms = rooms_that_agree(rooms, port, leaving)
            if not rooms:
                raise Contradiction("no sign allows this")
        self._rooms = rooms
        self._history = self._history + list(beams)
        return len(rooms)

    @property
    def signs(self):
        """The list of the signs that the tile can have had at first."""
        return list(self._rooms)

    @property
    def history(self):
        """The list of all accepted observations, in order."""
        return list(self._history)

    def best_port(self):
        """Returns the smallest port for which a beam would leave the fewest signs in the worst case."""
        worst = [self._most_left(port) for port in range(len(self._room))]
        return worst.index(min(worst))

    def _most_left(self, port):
        """Returns how many signs a beam at a port leaves in the worst case."""
        exits = []
        for room in self._rooms.values():
            leaving, _ = room(port)
            exits.append(leaving)
        return max([exits.count(leaving) for leaving in exits])
