"""Beams that come in at the same port again and again."""

from mirrorturns.checks import check_beams, check_port, check_tile
from mirrorturns.mirrors import MIRRORS, tiles_with
from mirrorturns.rooms import path


def follow(room, port):
    """Sends beams in until a room comes again.

    Returns the list of all rooms, in the order in which they come, and the
    number of the one that comes again after the last.
    """
    numbers = {}
    rooms = []
    while room.text not in numbers:
        numbers[room.text] = len(rooms)
        rooms.append(room)
        _, room = room(port)
    return rooms, numbers[room.text]


def room_after(room, port, number):
    """Returns the room after so many beams; the arguments are valid."""
    rooms, first = follow(room, port)
    if number < first:
        return rooms[number]
    return rooms[first + (number - first) % (len(rooms) - first)]


def nth_exit(room, port, number):
    """Returns the port at which the n-th beam leaves."""
    check_port(room, port)
    check_beams(number, 1)
    last_room = room_after(room, port, number - 1)
    leaving, _ = last_room(port)
    return leaving


def after_beams(room, port, number):
    """Returns the room after so many beams."""
    check_port(room, port)
    check_beams(number, 0)
    return room_after(room, port, number)


def find_cycle(room, port):
    """Tells when rooms come again.

    Returns the least number of beams after which the room is one that comes
    again, and the number of beams until it comes again for the first time.
    """
    check_port(room, port)
    rooms, first = follow(room, port)
    return first, len(rooms) - first


def count_passes(room, port, at, number):
    """Returns how often so many beams pass a tile."""
    check_port(room, port)
    check_tile(room, at)
    check_beams(number, 0)
    rooms, first = follow(room, port)
    counts = [list(path(each, port)).count(at) for each in rooms]
    if number < first:
        return sum(counts[:number])
    rounds, rest = divmod(number - first, len(rooms) - first)
    cycle = counts[first:]
    return sum(counts[:first]) + rounds * sum(cycle) + sum(cycle[:rest])


def never_passed(room, port):
    """Returns the list of all tiles with a mirror that no beam ever passes."""
    check_port(room, port)
    rooms, _ = follow(room, port)
    passed = set()
    for each in rooms:
        for tile in path(each, port):
            passed.add(tile)
    return [tile for tile in tiles_with(room.rows, MIRRORS) if tile not in passed]
