"""A slow second program for the tests, written straight from the document.

It uses words for directions and knows nothing of the package.
"""

import random

THROWN = {
    "rising": {"right": "up", "up": "right", "left": "down", "down": "left"},
    "falling": {"right": "down", "down": "right", "left": "up", "up": "left"},
}
KIND = {"r": "rising", "R": "rising", "f": "falling", "F": "falling"}
OTHER = {"r": "f", "f": "r"}
STEP = {"up": (-1, 0), "down": (1, 0), "left": (0, -1), "right": (0, 1)}

NO_INTEGERS = [True, False, None, "", "0", "6", (), (0,), (0, 0), [], [0], [None]]
NO_TILES = [True, False, None, 0, 1, "", "00", [], [0, 0], (), (0,), (0, 0, 0), (-1, 0), (0, -1),
            (True, 0), (0, True), (False, 0), (0, False), (None, 0), (0, None), ("0", 0), (0, "0"),
            ((0,), 0), (0, (0,)), ([0], 0), (0, [0]), ((0, 0),)]


def entrances(rows):
    """The first tile and the direction of a beam, for each port."""
    high, wide = len(rows), len(rows[0])
    found = []
    for column in range(wide):
        found.append((0, column, "down"))
    for row in range(high):
        found.append((row, wide - 1, "left"))
    for column in range(wide):
        found.append((high - 1, column, "up"))
    for row in range(high):
        found.append((row, 0, "right"))
    return found


def port_behind(row, column, high, wide):
    """The port at which a beam leaves that has come to a place behind the edge."""
    if row == -1:
        return column
    if column == wide:
        return wide + row
    if row == high:
        return wide + high + column
    return wide + high + wide + row


def one_beam(rows, port):
    """The tiles that a beam passes, where it leaves, and the rows afterwards."""
    high, wide = len(rows), len(rows[0])
    signs = {(row, column): rows[row][column] for row in range(high) for column in range(wide)}
    row, column, direction = entrances(rows)[port]
    tiles = []
    while (row, column) in signs:
        tiles.append((row, column))
        sign = signs[row, column]
        if sign in KIND:
            direction = THROWN[KIND[sign]][direction]
        signs[row, column] = OTHER.get(sign, sign)
        row, column = row + STEP[direction][0], column + STEP[direction][1]
    after = tuple("".join(signs[i, j] for j in range(wide)) for i in range(high))
    return tiles, port_behind(row, column, high, wide), after


def all_beams(rows):
    """Where a beam leaves and the rows afterwards, for each port."""
    return [one_beam(rows, port)[1:] for port in range(2 * (len(rows) + len(rows[0])))]


def with_tile(rows, at, sign):
    """The rows with another sign on one tile."""
    signs = [list(row) for row in rows]
    signs[at[0]][at[1]] = sign
    return tuple("".join(row) for row in signs)


def small_layouts():
    """The rows of every room of at most three tiles, and of every room of two by two."""
    for high, wide in [(1, 1), (1, 2), (2, 1), (1, 3), (3, 1), (2, 2)]:
        for number in range(5 ** (high * wide)):
            signs = "".join(".rfRF"[number // 5 ** at % 5] for at in range(high * wide))
            yield tuple(signs[row * wide:(row + 1) * wide] for row in range(high))


def large_layouts(many):
    """The rows of rooms of all sizes, always the same ones."""
    source = random.Random(20261119)
    for number in range(many):
        high, wide = number // 8 % 8 + 1, number % 8 + 1
        signs = [source.choice(".RF") for _ in range(high * wide)]
        turning = min(source.randint(0, 10), high * wide)
        for at in source.sample(range(high * wide), turning):
            signs[at] = source.choice("rf")
        yield tuple("".join(signs[row * wide:(row + 1) * wide]) for row in range(high))
