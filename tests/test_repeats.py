"""Beams that come in at the same port again and again (points 1 and 6)."""

import unittest

from mirrorturns.errors import InvalidNumber, UnknownPort, UnknownTile
from mirrorturns.repeats import after_beams, count_passes, find_cycle, never_passed, nth_exit
from mirrorturns.rooms import Room
from tests.model import NO_INTEGERS, NO_TILES, large_layouts, one_beam, small_layouts

MOST = 10 ** 18

# With port 0, the rooms are rr/FR, fr/FR, rf/FR and then ff/FR for ever. The
# beams leave at 6, 1, 6 and then at 1, and the fourth one and all after it
# pass (0, 0), (0, 1), (1, 1), (1, 0), (0, 0), (0, 1).
TAIL = ("rr", "FR")

# With port 13, the rooms come again only after all 1024.
LONG = ("RfRf.R", "..FF.r", "FF.rRR", "RRFrFr", "frRfFf")


class Examples(unittest.TestCase):

    def setUp(self):
        self.room = Room(".r", "f.")

    def test_nth_exit(self):
        room = self.room
        exits = [nth_exit(room, 6, 1), nth_exit(room, 6, 2), nth_exit(room, 6, 10 ** 18)]
        self.assertEqual(exits, [1, 5, 5])

    def test_after_beams(self):
        self.assertEqual(after_beams(self.room, 6, 3).text, ".f\nf.")

    def test_find_cycle(self):
        self.assertEqual(find_cycle(self.room, 6), (0, 2))

    def test_count_passes(self):
        self.assertEqual(count_passes(self.room, 6, (1, 1), 4), 2)

    def test_never_passed(self):
        self.assertEqual(never_passed(self.room, 6), [(1, 0)])


class WithTail(unittest.TestCase):

    def setUp(self):
        self.room = Room(*TAIL)

    def test_nth_exit(self):
        numbers = [1, 2, 3, 4, 5, 6, MOST - 1, MOST]
        exits = [nth_exit(self.room, 0, number) for number in numbers]
        self.assertEqual(exits, [6, 1, 6, 1, 1, 1, 1, 1])

    def test_after_beams(self):
        texts = [after_beams(self.room, 0, number).text for number in (0, 1, 2, 3, 4, MOST)]
        self.assertEqual(texts, ["rr\nFR", "fr\nFR", "rf\nFR", "ff\nFR", "ff\nFR", "ff\nFR"])

    def test_find_cycle(self):
        self.assertEqual(find_cycle(self.room, 0), (3, 1))
        self.assertEqual(find_cycle(Room("ff", "FR"), 0), (0, 1))
        self.assertEqual(find_cycle(Room("rf", "FR"), 0), (1, 1))

    def test_count_passes(self):
        counts = [count_passes(self.room, 0, (0, 0), number) for number in (0, 1, 2, 3, 4, 5)]
        self.assertEqual(counts, [0, 1, 2, 3, 5, 7])
        counts = [count_passes(self.room, 0, (1, 1), number) for number in (0, 1, 2, 3, 4, 5)]
        self.assertEqual(counts, [0, 0, 0, 0, 1, 2])
        self.assertEqual(count_passes(self.room, 0, (0, 0), MOST), 3 + 2 * (MOST - 3))
        self.assertEqual(count_passes(self.room, 0, (1, 0), MOST), MOST - 3)

    def test_never_passed(self):
        self.assertEqual(never_passed(self.room, 0), [])


class WithModel(unittest.TestCase):

    def check(self, rows, port, many):
        """Follows beams one by one and compares all functions, as far as that goes."""
        room = Room(*rows)
        states, exits, ways = [rows], [], []
        for _ in range(many):
            tiles, leaving, after = one_beam(states[-1], port)
            states.append(after)
            exits.append(leaving)
            ways.append(tiles)
        again = next(at for at, state in enumerate(states) if state in states[:at])
        first = states.index(states[again])
        self.assertEqual(find_cycle(room, port), (first, again - first))
        tiles = [(row, column) for row in range(len(rows)) for column in range(len(rows[0]))]
        for number in {0, 1, first, first + 1, again - 1, again, again + 1, many}:
            self.assertEqual(after_beams(room, port, number).rows, states[number])
            if number > 0:
                self.assertEqual(nth_exit(room, port, number), exits[number - 1])
            for tile in tiles:
                expected = sum(way.count(tile) for way in ways[:number])
                self.assertEqual(count_passes(room, port, tile, number), expected)
        unpassed = [(row, column) for row, column in tiles if rows[row][column] != "."
                    and all((row, column) not in way for way in ways)]
        self.assertEqual(never_passed(room, port), unpassed)

    def test_small_rooms(self):
        for number, rows in enumerate(small_layouts()):
            if number % 5 == 0:
                self.check(rows, number % (2 * (len(rows) + len(rows[0]))), 40)

    def test_rooms_of_all_sizes(self):
        for number, rows in enumerate(large_layouts(64)):
            if sum(row.count("r") + row.count("f") for row in rows) < 7:
                self.check(rows, number % (2 * (len(rows) + len(rows[0]))), 200)

    def test_long_tail(self):
        self.check((".f.r.", "rffrr", "FfRfr"), 11, 700)


class LongCycle(unittest.TestCase):

    def setUp(self):
        self.room = Room(*LONG)

    def test_find_cycle(self):
        self.assertEqual(find_cycle(self.room, 13), (0, 1024))

    def test_numbers_that_come_again(self):
        self.assertEqual(after_beams(self.room, 13, 1024), self.room)
        self.assertNotEqual(after_beams(self.room, 13, 1023), self.room)
        rest = MOST % 1024
        self.assertEqual(after_beams(self.room, 13, MOST), after_beams(self.room, 13, rest))
        self.assertEqual(nth_exit(self.room, 13, MOST), nth_exit(self.room, 13, rest or 1024))

    def test_sums(self):
        tile = (4, 0)
        once = count_passes(self.room, 13, tile, 1024)
        self.assertGreater(once, 0)
        rounds, rest = divmod(MOST - 5, 1024)
        self.assertEqual(count_passes(self.room, 13, tile, MOST - 5),
                         rounds * once + count_passes(self.room, 13, tile, rest))


class NeverPassed(unittest.TestCase):

    def test_all_kinds_of_mirrors_in_ascending_order(self):
        # Beams leave at the left, or are thrown up by the mirror in the middle.
        self.assertEqual(never_passed(Room("...", "rRF", "f.r"), 0), [(1, 2), (2, 0), (2, 2)])
        self.assertEqual(never_passed(Room("F.", "fR", "rF"), 0), [(1, 0), (1, 1), (2, 0), (2, 1)])

    def test_empty_tiles_do_not_count(self):
        self.assertEqual(never_passed(Room("..", ".."), 0), [])

    def test_mirrors_that_only_later_beams_pass(self):
        # The first beam leaves at the left, the second one goes to the right.
        self.assertEqual(never_passed(Room("rF"), 0), [])


class WrongArguments(unittest.TestCase):

    def setUp(self):
        self.room = Room(".r", "f.")

    def test_ports(self):
        for port in [-1, 8, 9] + NO_INTEGERS:
            with self.subTest(port):
                self.assertRaises(UnknownPort, nth_exit, self.room, port, 1)
                self.assertRaises(UnknownPort, after_beams, self.room, port, 1)
                self.assertRaises(UnknownPort, find_cycle, self.room, port)
                self.assertRaises(UnknownPort, count_passes, self.room, port, (0, 0), 1)
                self.assertRaises(UnknownPort, never_passed, self.room, port)

    def test_numbers(self):
        for number in [-1, -2, MOST + 1, MOST + 2, 2 * MOST] + NO_INTEGERS:
            with self.subTest(number):
                self.assertRaises(InvalidNumber, nth_exit, self.room, 6, number)
                self.assertRaises(InvalidNumber, after_beams, self.room, 6, number)
                self.assertRaises(InvalidNumber, count_passes, self.room, 6, (0, 0), number)

    def test_numbers_at_the_limits(self):
        self.assertRaises(InvalidNumber, nth_exit, self.room, 6, 0)
        self.assertEqual(nth_exit(self.room, 6, 1), 1)
        self.assertEqual(nth_exit(self.room, 6, MOST - 1), 1)
        self.assertEqual(nth_exit(self.room, 6, MOST), 5)
        self.assertEqual(after_beams(self.room, 6, 0), self.room)
        self.assertEqual(after_beams(self.room, 6, MOST), self.room)
        self.assertEqual(count_passes(self.room, 6, (0, 1), 0), 0)
        self.assertEqual(count_passes(self.room, 6, (0, 1), MOST), MOST)
        self.assertEqual(count_passes(self.room, 6, (1, 1), MOST), MOST // 2)

    def test_tiles(self):
        for at in NO_TILES + [(2, 0), (0, 2), (2, 2)]:
            with self.subTest(at):
                self.assertRaises(UnknownTile, count_passes, self.room, 6, at, 1)

    def test_order_of_checks(self):
        self.assertRaises(UnknownPort, nth_exit, self.room, 8, 0)
        self.assertRaises(UnknownPort, after_beams, self.room, True, -1)
        self.assertRaises(UnknownPort, count_passes, self.room, None, (2, 0), -1)
        self.assertRaises(UnknownPort, count_passes, self.room, 8, (0, 0), -1)
        self.assertRaises(UnknownPort, count_passes, self.room, 8, (2, 0), 1)
        self.assertRaises(UnknownTile, count_passes, self.room, 0, (2, 0), -1)
        self.assertRaises(UnknownTile, count_passes, self.room, 0, (0, True), MOST + 1)


class Unchanged(unittest.TestCase):

    def test_rooms_stay_and_calls_can_be_repeated(self):
        for rows in (TAIL, LONG):
            room = Room(*rows)
            for call in (lambda: nth_exit(room, 0, 77), lambda: after_beams(room, 0, 77),
                         lambda: find_cycle(room, 0), lambda: count_passes(room, 0, (0, 0), 77),
                         lambda: never_passed(room, 0)):
                self.assertEqual(call(), call())
            self.assertEqual(room.rows, rows)

    def test_kinds_of_results(self):
        room = Room(*TAIL)
        self.assertIs(type(find_cycle(room, 0)), tuple)
        self.assertIs(type(never_passed(room, 0)), list)
        self.assertIsInstance(after_beams(room, 0, 5), Room)

    def test_lists_are_new(self):
        room = Room(".r", "f.")
        never_passed(room, 6).clear()
        self.assertEqual(never_passed(room, 6), [(1, 0)])


if __name__ == "__main__":
    unittest.main()
