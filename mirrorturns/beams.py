"""Ports, and the way of one beam over the rows of a room.

A port is known by its place, the row and the column next to the edge of the
room, outside of it: row -1 lies over the room, column -1 to the left of it.
"""

from mirrorturns.mirrors import thrown, turned


def port_places(height, width):
    """Returns the places of all ports, in the order of their numbers."""
    over = [(-1, column) for column in range(width)]
    right = [(row, width) for row in range(height)]
    under = [(height, column) for column in range(width)]
    left = [(row, -1) for row in range(height)]
    return over + right + under + left


def step_inward(place, height, width):
    """Returns the step, down and to the right, from the place of a port into the room."""
    row, column = place
    if row < 0:
        return 1, 0
    if row == height:
        return -1, 0
    if column < 0:
        return 0, 1
    return 0, -1


def run_beam(rows, place):
    """Sends a beam in from the place of a port.

    Returns the tiles that it passes, the place of the port at which it
    leaves, and the rows afterwards. The loop ends, because the way of a beam
    can be followed back from each of its points: it never closes to a circle.
    """
    height = len(rows)
    width = len(rows[0])
    signs = [list(line) for line in rows]
    down, right = step_inward(place, height, width)
    row = place[0] + down
    column = place[1] + right
    tiles = []
    while 0 <= row < height and 0 <= column < width:
        tiles.append((row, column))
        sign = signs[row][column]
        down, right = thrown(sign, down, right)
        signs[row][column] = turned(sign)
        row = row + down
        column = column + right
    return tiles, (row, column), ["".join(line) for line in signs]
