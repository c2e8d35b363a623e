"""From room to room, and what tells two rooms apart (points 1 and 7)."""

import unittest

from mirrorturns.errors import OtherRoom, TooMany
from mirrorturns.journeys import count_rooms, fewest_beams, telling_beams
from mirrorturns.rooms import Room, send
from tests.model import NO_INTEGERS, NO_TILES, all_beams, large_layouts, small_layouts

# The beams that come to the mirror that turns go round through the four others
# and come to it once more: nothing ever changes, and it cannot be told how it stands.
ROUND = ("RrF", "F.R")
OTHER_ROUND = ("RfF", "F.R")

EIGHT = ("rrrr", "rrrr")
NINE = ("rrrr", "rrrr", "r...")


def reached(start, next_ones):
    """All that is reached from a start, in no particular order."""
    found, left = {start}, [start]
    while left:
        for one in next_ones(left.pop()):
            if one not in found:
                found.add(one)
                left.append(one)
    return found


def first_list(start, moves, goal):
    """The first in list order of the shortest lists of moves to a goal, or None.

    This goes back from the goal, unlike the package: it finds out how far each
    state is from it, and then takes the least move that leads nearer each time.
    """
    states = reached(start, lambda state: [] if state == goal else moves(state))
    far = {goal: 0}
    changed = True
    while changed:
        changed = False
        for state in states - {goal}:
            best = min([far[one] for one in moves(state) if one in far], default=None)
            if best is not None and far.get(state, best + 2) > best + 1:
                far[state] = best + 1
                changed = True
    if start not in far:
        return None
    ports = []
    while start != goal:
        after = moves(start)
        ports.append(min(port for port, one in enumerate(after) if far.get(one) == far[start] - 1))
        start = after[ports[-1]]
    return ports


class Beams:
    """The beams of the model, each one sent once."""

    def __init__(self):
        self.known = {}

    def of(self, rows):
        if rows not in self.known:
            self.known[rows] = all_beams(rows)
        return self.known[rows]

    def after(self, rows):
        return [after for _, after in self.of(rows)]

    def after_both(self, pair):
        """The pairs of rows afterwards; "told" where the beams leave at different ports."""
        both = zip(self.of(pair[0]), self.of(pair[1]))
        return [(one, two) if leaving == other else "told"
                for (leaving, one), (other, two) in both]

    def fewest(self, rows, other):
        return first_list(rows, self.after, other)

    def telling(self, rows, other):
        return first_list((rows, other), lambda pair: self.after_both(pair) if pair != "told" else [],
                          "told")

    def many(self, rows):
        return len(reached(rows, self.after))


def turned_by_number(rows, number):
    """The rows with each mirror that turns standing as the bits of a number say."""
    lines = []
    for row in rows:
        signs = []
        for sign in row:
            if sign in "rf":
                sign = "rf"[number % 2]
                number //= 2
            signs.append(sign)
        lines.append("".join(signs))
    return tuple(lines)


def many_turning(rows):
    return sum(row.count("r") + row.count("f") for row in rows)


class Examples(unittest.TestCase):

    def setUp(self):
        self.room = Room(".r", "f.")

    def test_fewest_beams(self):
        self.assertEqual(fewest_beams(self.room, Room(".f", "f.")), [1])

    def test_count_rooms(self):
        self.assertEqual(count_rooms(self.room), 4)

    def test_telling_beams(self):
        room = self.room
        self.assertEqual([telling_beams(room, ~room), telling_beams(room, room)], [[0], None])


class Fewest(unittest.TestCase):

    def test_room_to_itself(self):
        for rows in [(".",), ("R",), ("r",), ROUND, EIGHT, (".r", "f.")]:
            self.assertEqual(fewest_beams(Room(*rows), Room(*rows)), [])

    def test_no_beams(self):
        self.assertIsNone(fewest_beams(Room(*ROUND), Room(*OTHER_ROUND)))
        self.assertIsNone(fewest_beams(Room(*OTHER_ROUND), Room(*ROUND)))

    def test_first_of_several(self):
        # Each of the four ports turns the only mirror.
        self.assertEqual(fewest_beams(Room("r"), Room("f")), [0])
        self.assertEqual(fewest_beams(Room("f"), Room("r")), [0])
        # Ports 0, 2, 3 and 6 turn the mirror on the left, and then ports 1, 4, 5
        # and 7 the one on the right, or the other way round: 32 lists in all.
        self.assertEqual(fewest_beams(Room("fFr"), Room("rFf")), [0, 1])
        # Port 0 turns the mirror on the left alone; 1 and 3 turn both.
        self.assertEqual(fewest_beams(Room("rr"), Room("ff")), [1])

    def brute(self, rows, other):
        """All lists of a length in list order, then all longer by one, and so on."""
        beams = Beams()
        lists = [([], rows)]
        while True:
            for ports, state in lists:
                if state == other:
                    return ports
            lists = [(ports + [port], after) for ports, state in lists
                     for port, after in enumerate(beams.after(state))]

    def test_all_lists_one_by_one(self):
        lengths = set()
        for rows in [("rr",), ("r.f",), ("rf", "fr"), ("rFr",), ("r", "r", "f"), (".r", "Rf")]:
            for number in range(2 ** many_turning(rows)):
                other = turned_by_number(rows, number)
                found = fewest_beams(Room(*rows), Room(*other))
                self.assertIsNotNone(found)
                self.assertEqual(found, self.brute(rows, other), (rows, other))
                lengths.add(len(found))
        self.assertTrue({0, 1, 2, 3} <= lengths, lengths)

    def test_small_rooms(self):
        beams = Beams()
        for number, rows in enumerate(small_layouts()):
            if number % 3 == 0 and many_turning(rows) > 0:
                other = turned_by_number(rows, number)
                expected = beams.fewest(rows, other)
                self.assertEqual(fewest_beams(Room(*rows), Room(*other)), expected, (rows, other))

    def test_larger_rooms(self):
        beams = Beams()
        lengths = set()
        for number, rows in enumerate(large_layouts(128)):
            if 2 <= many_turning(rows) <= 6:
                other = turned_by_number(rows, number * 37)
                expected = beams.fewest(rows, other)
                found = fewest_beams(Room(*rows), Room(*other))
                self.assertEqual(found, expected, (rows, other))
                lengths.add(None if found is None else len(found))
        self.assertIn(None, lengths)
        self.assertGreater(len(lengths), 4)

    def test_eight_mirrors_that_turn(self):
        room = Room(*EIGHT)
        found = fewest_beams(room, ~room)
        _, after = send(room, *found)
        self.assertEqual(after, ~room)
        self.assertEqual(found, Beams().fewest(EIGHT, ("ffff", "ffff")))

    def test_eight_of_more_mirrors(self):
        room = Room("rrrrRRRR", "rrrrFFFF")
        self.assertEqual(fewest_beams(room, room), [])

    def test_nine_mirrors_that_turn(self):
        room = Room(*NINE)
        for other in (room, ~room, Room("ffrr", "rrrr", "r...")):
            with self.assertRaises(TooMany):
                fewest_beams(room, other)
        ten = Room("rrrrr", "fffff")
        with self.assertRaises(TooMany):
            fewest_beams(ten, ten)

    def test_other_room(self):
        room = Room(".r", "f.")
        for rows in [("rr", "f."), (".R", "f."), (".r", "F."), (".r", ".f"), (".r",), (".", "r"),
                     (".r", "f.", ".."), (".r.", "f.."), ("..", "..")]:
            with self.assertRaises(OtherRoom):
                fewest_beams(room, Room(*rows))
            with self.assertRaises(OtherRoom):
                fewest_beams(Room(*rows), room)
        with self.assertRaises(OtherRoom):
            fewest_beams(Room("R"), Room("F"))

    def test_other_room_before_too_many(self):
        with self.assertRaises(OtherRoom):
            fewest_beams(Room(*NINE), Room("rrrr", "rrrr", ".r.."))
        with self.assertRaises(OtherRoom):
            fewest_beams(Room(*NINE), Room("r"))
        with self.assertRaises(OtherRoom):
            fewest_beams(Room("r"), Room(*NINE))

    def test_no_room(self):
        for value in NO_INTEGERS + NO_TILES + [".r\nf.", (".r", "f."), [".r", "f."]]:
            with self.assertRaises(OtherRoom):
                fewest_beams(Room(".r", "f."), value)
            with self.assertRaises(OtherRoom):
                fewest_beams(Room(*NINE), value)
            with self.assertRaises(OtherRoom):
                fewest_beams(value, Room(".r", "f."))

    def test_results_are_new(self):
        room = Room("r")
        fewest_beams(room, room).append(3)
        fewest_beams(room, ~room).append(3)
        self.assertEqual([fewest_beams(room, room), fewest_beams(room, ~room)], [[], [0]])
        self.assertEqual(room.rows, ("r",))


class Count(unittest.TestCase):

    def test_one(self):
        for rows in [(".",), ("R",), ("F.", ".R"), ROUND, OTHER_ROUND]:
            self.assertEqual(count_rooms(Room(*rows)), 1)

    def test_small_rooms(self):
        beams = Beams()
        for number, rows in enumerate(small_layouts()):
            if number % 3 == 1:
                self.assertEqual(count_rooms(Room(*rows)), beams.many(rows), rows)

    def test_larger_rooms(self):
        beams = Beams()
        for rows in large_layouts(64):
            if many_turning(rows) <= 5:
                self.assertEqual(count_rooms(Room(*rows)), beams.many(rows), rows)

    def test_eight_and_nine_mirrors_that_turn(self):
        self.assertEqual(count_rooms(Room(*EIGHT)), Beams().many(EIGHT))
        with self.assertRaises(TooMany):
            count_rooms(Room(*NINE))
        with self.assertRaises(TooMany):
            count_rooms(Room("rfrfr", "rfrfr"))


class Telling(unittest.TestCase):

    def test_none(self):
        for rows in [(".",), ("r",), ROUND, EIGHT]:
            self.assertIsNone(telling_beams(Room(*rows), Room(*rows)))
        self.assertIsNone(telling_beams(Room(*ROUND), Room(*OTHER_ROUND)))

    def test_first_of_several(self):
        # All four ports tell these apart.
        self.assertEqual(telling_beams(Room("R"), Room("F")), [0])
        # Here the first beam leaves both at the left.
        self.assertEqual(telling_beams(Room("r"), Room("R")), [0, 0])

    def test_last_beam_tells(self):
        beams = Beams()
        for rows, other in [(("r",), ("R",)), (("rF.",), ("RF.",)), ((".f", "R."), (".F", "R."))]:
            found = telling_beams(Room(*rows), Room(*other))
            exits, _ = send(Room(*rows), *found)
            other_exits, _ = send(Room(*other), *found)
            self.assertEqual(exits[:-1], other_exits[:-1])
            self.assertNotEqual(exits[-1], other_exits[-1])
            self.assertEqual(found, beams.telling(rows, other))

    def test_small_rooms_of_one_size(self):
        beams = Beams()
        layouts = [rows for rows in small_layouts() if len(rows) == len(rows[0])]
        lengths = set()
        for number, rows in enumerate(layouts):
            other = layouts[(number * 171 + 5) % len(layouts)]
            near = layouts[number - 1]
            for one in (other, near):
                if len(one) == len(rows):
                    expected = beams.telling(rows, one)
                    self.assertEqual(telling_beams(Room(*rows), Room(*one)), expected, (rows, one))
                    lengths.add(None if expected is None else len(expected))
        self.assertTrue({1, 2} <= lengths, lengths)

    def test_small_rooms_of_other_sizes(self):
        # With one by three, three by one and two by two tiles, there are eight ports.
        beams = Beams()
        layouts = [rows for rows in small_layouts() if len(rows) + len(rows[0]) == 4]
        lengths = set()
        for number, rows in enumerate(layouts):
            other = layouts[(number * 333 + 100) % len(layouts)]
            expected = beams.telling(rows, other)
            self.assertEqual(telling_beams(Room(*rows), Room(*other)), expected, (rows, other))
            if len(rows) != len(other):
                lengths.add(None if expected is None else len(expected))
        self.assertIn(1, lengths)

    def test_two_beams_for_rooms_of_other_sizes(self):
        # The second pair is ".r." and "..", ".R": port 1 turns the mirror of the
        # first room alone, and then tells; no single beam does.
        pairs = [(("...",), (".", ".", "."), None), ((".r.",), ("..", ".R"), [1, 1]),
                 (("rr.",), ("..", "rR"), [1, 0]), (("fr.",), ("..", "fR"), [0, 1]),
                 (("Fr.",), ("f", ".", "f"), [3, 1]), (("FRF",), ("FR", "fF"), [4, 4])]
        for rows, other, ports in pairs:
            self.assertEqual(Beams().telling(rows, other), ports)
            self.assertEqual(telling_beams(Room(*rows), Room(*other)), ports)
            self.assertEqual(telling_beams(Room(*other), Room(*rows)), ports)

    def test_larger_rooms(self):
        beams = Beams()
        lengths = set()
        for number, rows in enumerate(large_layouts(128)):
            if 1 <= many_turning(rows) <= 5:
                other = turned_by_number(rows, number * 41)
                expected = beams.telling(rows, other)
                self.assertEqual(telling_beams(Room(*rows), Room(*other)), expected, (rows, other))
                lengths.add(None if expected is None else len(expected))
        self.assertTrue({None, 1} <= lengths, lengths)

    def test_one_mirror_that_turns_and_one_that_does_not(self):
        beams = Beams()
        lengths = set()
        for rows in large_layouts(128):
            if 1 <= many_turning(rows) <= 5:
                at = next((row, line.index(sign)) for row, line in enumerate(rows)
                          for sign in line if sign in "rf")
                other = list(rows)
                line = other[at[0]]
                other[at[0]] = line[:at[1]] + line[at[1]].upper() + line[at[1] + 1:]
                expected = beams.telling(rows, tuple(other))
                self.assertEqual(telling_beams(Room(*rows), Room(*other)), expected, (rows, other))
                lengths.add(None if expected is None else len(expected))
        self.assertTrue({2, 3} <= lengths, lengths)

    def test_other_number_of_ports(self):
        for rows in [("r",), (".r",), (".", "r"), (".r", "f.", ".."), (".r.", "f.."), (".r..",)]:
            with self.assertRaises(OtherRoom):
                telling_beams(Room(".r", "f."), Room(*rows))

    def test_other_room_before_too_many(self):
        with self.assertRaises(OtherRoom):
            telling_beams(Room(*NINE), Room("r"))
        with self.assertRaises(OtherRoom):
            telling_beams(Room("r"), Room(*NINE))

    def test_eight_and_nine_mirrors_that_turn(self):
        eight, nine = Room("rrrr", "rrrr", "R..."), Room(*NINE)
        self.assertEqual(telling_beams(eight, Room("....", "....", "....")),
                         Beams().telling(eight.rows, ("....", "....", "....")))
        for pair in [(nine, eight), (eight, nine), (nine, nine), (nine, Room("......."))]:
            self.assertEqual(len(pair[0]), 14)
            with self.assertRaises(TooMany if len(pair[1]) == 14 else OtherRoom):
                telling_beams(*pair)

    def test_no_room(self):
        for value in NO_INTEGERS + NO_TILES + ["........", ("r",) * 8, [0] * 8]:
            with self.assertRaises(OtherRoom):
                telling_beams(Room(".r", "f."), value)
            with self.assertRaises(OtherRoom):
                telling_beams(Room(*NINE), value)
            with self.assertRaises(OtherRoom):
                telling_beams(value, Room(".r", "f."))

    def test_results_are_new(self):
        room = Room("r")
        telling_beams(room, ~room).append(3)
        self.assertEqual(telling_beams(room, ~room), [0])
        self.assertEqual(room.rows, ("r",))


if __name__ == "__main__":
    unittest.main()
