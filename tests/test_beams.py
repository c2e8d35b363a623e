"""Ports, beams and mirrors, and path, send and unsent (points 1, 3 and 5)."""

import itertools
import types
import unittest

from mirrorturns.errors import UnknownPort
from mirrorturns.rooms import Room, path, send, unsent
from tests.model import NO_INTEGERS, large_layouts, one_beam, small_layouts


class Examples(unittest.TestCase):

    def test_path(self):
        room = Room(".r", "f.")
        self.assertEqual(list(path(room, 6)), [(0, 0), (0, 1)])

    def test_send(self):
        room = Room(".r", "f.")
        exits, after = send(room, 6, 6)
        self.assertEqual([exits, after == room], [[1, 5], True])

    def test_unsent(self):
        room = Room(".r", "f.")
        exits, after = send(room, 6)
        ports, before = unsent(after, 1)
        self.assertEqual([ports, before == room], [[6], True])


class Ports(unittest.TestCase):

    def test_straight_through(self):
        # Two rows and three columns: 0 to 2 above, 3 and 4 on the right,
        # 5 to 7 below, 8 and 9 on the left.
        room = Room("...", "...")
        across = {0: 5, 1: 6, 2: 7, 3: 8, 4: 9}
        for port, opposite in across.items():
            self.assertEqual(room(port), (opposite, room))
            self.assertEqual(room(opposite), (port, room))

    def test_first_tiles(self):
        room = Room("...", "...")
        firsts = [(0, 0), (0, 1), (0, 2), (0, 2), (1, 2), (1, 0), (1, 1), (1, 2), (0, 0), (1, 0)]
        self.assertEqual([list(path(room, port))[0] for port in range(10)], firsts)

    def test_one_tile(self):
        self.assertEqual([Room(".")(port)[0] for port in range(4)], [2, 3, 0, 1])

    def test_eight_by_eight(self):
        room = Room(*["........"] * 8)
        for port in range(32):
            self.assertEqual(room(port)[0], (port + 16) % 32)
            self.assertEqual(len(list(path(room, port))), 8)


class Mirrors(unittest.TestCase):

    # The ports of one tile: 0 above, 1 right, 2 below, 3 left.

    def test_rising_mirrors(self):
        # Down is thrown to the left, left down, up right, right up.
        self.assertEqual([Room("R")(port)[0] for port in range(4)], [3, 2, 1, 0])
        self.assertEqual([Room("r")(port)[0] for port in range(4)], [3, 2, 1, 0])

    def test_falling_mirrors(self):
        # Down is thrown to the right, left up, up left, right down.
        self.assertEqual([Room("F")(port)[0] for port in range(4)], [1, 0, 3, 2])
        self.assertEqual([Room("f")(port)[0] for port in range(4)], [1, 0, 3, 2])

    def test_mirrors_turn(self):
        for before, after in [("r", "f"), ("f", "r"), ("R", "R"), ("F", "F"), (".", ".")]:
            for port in range(4):
                self.assertEqual(Room(before)(port)[1], Room(after))

    def test_only_mirrors_that_are_hit_turn(self):
        self.assertEqual(Room(".r", "f.")(6)[1], Room(".f", "f."))
        self.assertEqual(Room(".r", "f.")(0), (3, Room(".r", "r.")))

    def test_one_mirror_several_times(self):
        # Down from port 0: right at (0, 0), down at (0, 1), left at (1, 1), up
        # at (1, 0), then both upper mirrors stand the other way: right at
        # (0, 0), up at (0, 1).
        room = Room("ff", "FR")
        self.assertEqual(list(path(room, 0)), [(0, 0), (0, 1), (1, 1), (1, 0), (0, 0), (0, 1)])
        self.assertEqual(room(0), (1, room))

    def test_mirror_that_is_hit_twice_and_others_once(self):
        # Right from port 6: down at (0, 0), right at (1, 0), up at (1, 1), left
        # at (0, 1), then down at (0, 0) and left at (1, 0), turned meanwhile.
        room = Room("ff", "fr")
        self.assertEqual(list(path(room, 6)), [(0, 0), (1, 0), (1, 1), (0, 1), (0, 0), (1, 0)])
        self.assertEqual(room(6), (7, Room("fr", "ff")))

    def check_with_model(self, rows):
        room = Room(*rows)
        for port in range(len(room)):
            tiles, leaving, after = one_beam(rows, port)
            self.assertEqual(list(path(room, port)), tiles, (rows, port))
            self.assertEqual(room(port), (leaving, Room(*after)), (rows, port))

    def test_all_small_rooms(self):
        for rows in small_layouts():
            self.check_with_model(rows)

    def test_rooms_of_all_sizes(self):
        for rows in large_layouts(256):
            self.check_with_model(rows)

    def test_beams_are_undone_as_the_overview_says(self):
        for rows in large_layouts(128):
            room = Room(*rows)
            for port in range(len(room)):
                leaving, after = room(port)
                back, before = (~after)(leaving)
                self.assertEqual((back, ~before), (port, room))


class Path(unittest.TestCase):

    def test_generator(self):
        self.assertIsInstance(path(Room("r"), 0), types.GeneratorType)

    def test_passes_empty_tiles_and_fixed_mirrors(self):
        self.assertEqual(list(path(Room("..F", "..."), 8)), [(0, 0), (0, 1), (0, 2), (1, 2)])

    def test_unknown_port_is_raised_with_the_first_tile(self):
        for port in [-1, 4, 5] + NO_INTEGERS:
            tiles = path(Room("r"), port)
            with self.subTest(port), self.assertRaises(UnknownPort):
                next(tiles)

    def test_two_walks_do_not_disturb_each_other(self):
        room = Room("ff", "FR")
        first, second = path(room, 0), path(room, 0)
        self.assertEqual([next(first), next(first), next(second)], [(0, 0), (0, 1), (0, 0)])
        self.assertEqual(len(list(first)) + len(list(second)), 9)

    def test_room_is_not_changed(self):
        room = Room("ff", "fr")
        self.assertEqual(list(path(room, 6)), list(path(room, 6)))
        self.assertEqual(room.rows, ("ff", "fr"))


class Send(unittest.TestCase):

    def test_no_beams(self):
        room = Room(".r", "f.")
        self.assertEqual(send(room), ([], room))

    def test_kinds_of_results(self):
        for result in (send(Room("r"), 0, 1), unsent(Room("r"), 0, 1), send(Room("r"))):
            self.assertIs(type(result), tuple)
            self.assertIs(type(result[0]), list)
            self.assertIsInstance(result[1], Room)

    def test_beams_one_after_another(self):
        room = Room("r")
        self.assertEqual(send(room, 0, 0, 1), ([3, 1, 2], Room("f")))

    def test_with_model(self):
        for rows in large_layouts(128):
            room = Room(*rows)
            ports = [number * 7 % len(room) for number in range(20)]
            expected, now = [], rows
            for port in ports:
                _, leaving, now = one_beam(now, port)
                expected.append(leaving)
            self.assertEqual(send(room, *ports), (expected, Room(*now)))

    def test_unknown_ports(self):
        room = Room("r")
        for port in [-1, 4] + NO_INTEGERS:
            for ports in [(port,), (port, 0), (0, port), (0, 1, port), (port, port)]:
                with self.subTest(ports), self.assertRaises(UnknownPort):
                    send(room, *ports)
        self.assertEqual(room, Room("r"))

    def test_lists_are_new_and_arguments_stay(self):
        room = Room(".r", "f.")
        ports = [6, 6, 3]
        exits, _ = send(room, *ports)
        expected = list(exits)
        exits.clear()
        self.assertEqual(send(room, *ports)[0], expected)
        self.assertEqual((ports, room.rows), ([6, 6, 3], (".r", "f.")))


class Unsent(unittest.TestCase):

    def test_no_beams(self):
        room = Room(".r", "f.")
        self.assertEqual(unsent(room), ([], room))

    def test_order_of_ports(self):
        # From "r": a beam from 0 leaves at 3, then one from 1, in "f", at 0.
        self.assertEqual(send(Room("r"), 0, 1), ([3, 0], Room("r")))
        self.assertEqual(unsent(Room("r"), 3, 0), ([0, 1], Room("r")))

    def test_all_beams_of_small_rooms(self):
        for rows in [("r",), ("rf",), ("f", "R"), ("rf", "Fr"), ("ff", "fr"), (".r", "f.")]:
            room = Room(*rows)
            for ports in itertools.product(range(len(room)), repeat=2):
                exits, after = send(room, *ports)
                self.assertEqual(unsent(after, *exits), (list(ports), room))

    def test_undoes_beams_of_large_rooms(self):
        for rows in large_layouts(128):
            room = Room(*rows)
            ports = [number * 5 % len(room) for number in range(20)]
            exits, after = send(room, *ports)
            self.assertEqual(unsent(after, *exits), (ports, room))

    def test_any_exits_have_a_room_before(self):
        for rows in large_layouts(128):
            after = Room(*rows)
            exits = [number * 3 % len(after) for number in range(10)]
            ports, before = unsent(after, *exits)
            self.assertEqual(send(before, *ports), (exits, after))

    def test_unknown_ports(self):
        room = Room("r")
        for port in [-1, 4] + NO_INTEGERS:
            for exits in [(port,), (port, 0), (0, port), (0, 1, port), (port, port)]:
                with self.subTest(exits), self.assertRaises(UnknownPort):
                    unsent(room, *exits)

    def test_lists_are_new_and_arguments_stay(self):
        room = Room(".r", "f.")
        exits = [6, 6, 3]
        ports, _ = unsent(room, *exits)
        expected = list(ports)
        ports.clear()
        self.assertEqual(unsent(room, *exits)[0], expected)
        self.assertEqual((exits, room.rows), ([6, 6, 3], (".r", "f.")))


if __name__ == "__main__":
    unittest.main()
