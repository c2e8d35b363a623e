"""Beams that lead from room to room, and beams that tell two rooms apart.

Both are looked for in the order of their lists of ports: shorter lists first,
and lists of one length in list order. So the first list found is the answer.
"""

from mirrorturns.errors import OtherRoom, TooMany
from mirrorturns.rooms import Room

MOST_TURNING = 8


class Beams:
    """Sends beams, and remembers what they did, as the same rooms come again and again."""

    def __init__(self):
        self._known = {}

    def through(self, room):
        """Returns, for each port, the port at which a beam leaves, and the room afterwards."""
        if room.text not in self._known:
            self._known[room.text] = [room(port) for port in range(len(room))]
        return self._known[room.text]


def check_rooms(room, other):
    """Raises OtherRoom for anything that is not two rooms."""
    if not isinstance(room, Room) or not isinstance(other, Room):
        raise OtherRoom("no two rooms")


def check_turning(room):
    """Raises TooMany for a room in which too many mirrors turn."""
    if len(room.turning) > MOST_TURNING:
        raise TooMany("too many mirrors turn")


def rising_rows(room):
    """Returns the rows of a room when all mirrors that turn are made rising ones."""
    return [row.replace("f", "r") for row in room.rows]


def journeys_from(room):
    """Returns a dict of the texts of all rooms to which beams lead, with the first list of ports for each."""
    journeys = {room.text: []}
    queue = [room]
    at = 0
    while at < len(queue):
        each = queue[at]
        at += 1
        for port in range(len(each)):
            _, after = each(port)
            if after.text not in journeys:
                journeys[after.text] = journeys[each.text] + [port]
                queue.append(after)
    return journeys


def fewest_beams(room, other):
    """Returns the first of the shortest lists of ports that lead from one room to another, or None."""
    check_rooms(room, other)
    if rising_rows(room) != rising_rows(other):
        raise OtherRoom("other tiles or other mirrors")
    check_turning(room)
    return journeys_from(room).get(other.text)


def count_rooms(room):
    """Returns to how many rooms, this one included, beams can lead."""
    check_turning(room)
    return len(journeys_from(room))


def telling_port(ways, other_ways):
    """Returns the first port for which a beam leaves two rooms at different ports, or None."""
    for port, (leaving, _) in enumerate(ways):
        other_leaving, _ = other_ways[port]
        if leaving != other_leaving:
            return port
    return None


def telling_journey(room, other):
    """Returns the first of the shortest lists of ports that tell two rooms apart, or None."""
    beams = Beams()
    journeys = {(room.text, other.text): []}
    queue = [(room, other)]
    at = 0
    while at < len(queue):
        one, two = queue[at]
        at += 1
        journey = journeys[one.text, two.text]
        ways = beams.through(one)
        other_ways = beams.through(two)
        told = telling_port(ways, other_ways)
        if told is not None:
            return journey + [told]
        for port, (_, after) in enumerate(ways):
            _, other_after = other_ways[port]
            texts = (after.text, other_after.text)
            if texts not in journeys:
                journeys[texts] = journey + [port]
                queue.append((after, other_after))
    return None


def telling_beams(room, other):
    """Returns the fewest beams of which the last one leaves two rooms at different ports, or None."""
    check_rooms(room, other)
    if len(room) != len(other):
        raise OtherRoom("another number of ports")
    check_turning(room)
    check_turning(other)
    return telling_journey(room, other)
