"""The signs of tiles, and what mirrors do to a beam.

The step of a beam is told by two numbers, how far it goes down and how far
it goes to the right: 1, 0 or -1 each.
"""

SIGNS = ".rfRF"
MIRRORS = "rfRF"
TURNING = "rf"
RISING = "rR"
FALLING = "fF"


def thrown(sign, down, right):
    """Returns the step of a beam behind a tile."""
    if sign in RISING:
        return -right, -down
    if sign in FALLING:
        return right, down
    return down, right


def turned(sign):
    """Returns the sign of a tile once its mirror, if there is one that turns, has turned."""
    if sign == "r":
        return "f"
    if sign == "f":
        return "r"
    return sign


def tiles_with(rows, signs):
    """Returns the tiles that have one of the signs, in ascending order."""
    return [(row, column)
            for row, line in enumerate(rows)
            for column, sign in enumerate(line)
            if sign in signs]
