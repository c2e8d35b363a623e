"""Rooms: what makes one invalid, properties, and use by signs (points 1, 2 and 4)."""

import unittest

from mirrorturns.errors import InvalidRoom, UnknownPort, UnknownTile
from mirrorturns.rooms import Room
from tests.model import NO_INTEGERS, NO_TILES, large_layouts, small_layouts


class RoomTest(unittest.TestCase):

    def assert_invalid(self, place, *rows):
        with self.assertRaises(InvalidRoom) as caught:
            Room(*rows)
        self.assertEqual((caught.exception.row, caught.exception.column), place, rows)


class Examples(RoomTest):

    def test_make_and_use(self):
        room = Room(".r", "f.")
        leaving, after = room(6)
        self.assertEqual(
            [leaving, after.text, len(room), room[0, 1], (~room).text, room.turning],
            [1, ".f\nf.", 8, "r", ".f\nr.", [(0, 1), (1, 0)]])

    def test_invalid_sign(self):
        self.assert_invalid((1, 0), ".r", "x.")

    def test_unknown_port(self):
        room = Room(".r", "f.")
        with self.assertRaises(UnknownPort):
            room(8)

    def test_parse(self):
        self.assertEqual(Room.parse(".r\nf.").rows, (".r", "f."))


class Invalid(RoomTest):

    def test_no_rows(self):
        self.assert_invalid((0, 0))

    def test_ninth_row(self):
        self.assertEqual(Room(*["."] * 8).size, (8, 1))
        self.assert_invalid((8, 0), *["."] * 9)
        self.assert_invalid((8, 0), *["."] * 12)

    def test_ninth_row_whatever_it_is(self):
        for row in ("x", "", "..", ".x", None, 5):
            self.assert_invalid((8, 0), *["."] * 8, row)

    def test_fault_before_the_ninth_row(self):
        self.assert_invalid((7, 1), *[".."] * 7, ".x", "..")
        self.assert_invalid((2, 0), "..", "..", 3, *[".."] * 6)

    def test_row_that_is_not_a_string(self):
        for row in (None, True, False, 0, 12, (), ("r", "f"), [], ["r", "f"], ("..",), [".."]):
            self.assert_invalid((0, 0), row)
            self.assert_invalid((0, 0), row, "..")
            self.assert_invalid((1, 0), "..", row)
            self.assert_invalid((1, 0), "..", row, "x.")

    def test_empty_row(self):
        self.assert_invalid((0, 0), "")
        self.assert_invalid((0, 0), "", "")
        self.assert_invalid((1, 0), "r.", "")
        self.assert_invalid((1, 0), "r.", "", "f.")

    def test_other_signs(self):
        for sign in " x/\\,rR0-_FRf\t\n\u00e9\uff32":
            if sign in ".rfRF":
                continue
            self.assert_invalid((0, 0), sign)
            self.assert_invalid((0, 2), ".r" + sign)
            self.assert_invalid((1, 1), "...", "." + sign + ".")

    def test_ninth_sign(self):
        self.assertEqual(Room("." * 8).size, (1, 8))
        self.assert_invalid((0, 8), "." * 9)
        self.assert_invalid((0, 8), "." * 20)
        self.assert_invalid((0, 8), "." * 8 + "x")
        self.assert_invalid((0, 8), "." * 9, "." * 9)
        self.assert_invalid((0, 3), "...x.....")
        self.assert_invalid((1, 8), "." * 8, "." * 9)

    def test_row_longer_than_the_first(self):
        self.assert_invalid((1, 2), "..", "...")
        self.assert_invalid((2, 2), "..", "..", "..x..")
        self.assert_invalid((1, 1), "..", ".x.")
        self.assert_invalid((1, 2), "..", "." * 9)

    def test_row_shorter_than_the_first(self):
        self.assert_invalid((1, 1), "..", ".")
        self.assert_invalid((1, 3), "....", "rfR", "....")
        self.assert_invalid((1, 0), "...", "x")
        self.assert_invalid((1, 1), "...", ".", "x..")
        self.assert_invalid((1, 7), "." * 8, "." * 7)

    def test_row_is_compared_with_the_first_one(self):
        self.assert_invalid((1, 2), "...", "..", "..")

    def test_eleventh_mirror_that_turns(self):
        self.assertEqual(len(Room("rfrfr", "frfrf").turning), 10)
        self.assert_invalid((2, 0), "rfrfr", "frfrf", "r....")
        self.assert_invalid((2, 3), "rfrfr", "frfrf", ".RFf.")
        self.assert_invalid((1, 3), "rrrrrrrr", "rr.r....")
        self.assert_invalid((7, 7), "rrrrrrrr", "rr......", *["........"] * 5, ".......f")

    def test_first_of_several_places(self):
        self.assert_invalid((1, 2), "rrrrrrrr", "rrf")
        self.assert_invalid((1, 2), "rrrrrrrr", "rr")
        self.assert_invalid((1, 1), "rrrrrrrr", "rx")
        self.assert_invalid((1, 5), "rrrrr", "frfrfr")
        self.assert_invalid((2, 0), "rrrrr", "frfrf", "f")

    def test_mirrors_that_never_turn_are_not_limited(self):
        room = Room(*["RFRFRFRF"] * 8)
        self.assertEqual((room.size, room.turning), ((8, 8), []))
        rows = ["RFRFRFRF"] * 6 + ["rrrrrRRR", "fffffFFF"]
        self.assertEqual(len(Room(*rows).turning), 10)


class Parse(RoomTest):

    def assert_text_invalid(self, place, text):
        with self.assertRaises(InvalidRoom) as caught:
            Room.parse(text)
        self.assertEqual((caught.exception.row, caught.exception.column), place, text)

    def test_texts_of_rooms(self):
        for rows in large_layouts(64):
            self.assertEqual(Room.parse("\n".join(rows)).rows, rows)

    def test_result_is_a_room(self):
        self.assertIsInstance(Room.parse("r"), Room)
        self.assertEqual(Room.parse("r"), Room("r"))

    def test_wrong_texts(self):
        self.assert_text_invalid((0, 0), "")
        self.assert_text_invalid((0, 0), "\n..")
        self.assert_text_invalid((1, 0), "..\n")
        self.assert_text_invalid((1, 0), "..\n\n..")
        self.assert_text_invalid((0, 2), "..\r\n..")
        self.assert_text_invalid((0, 2), "..\x0b..")
        self.assert_text_invalid((1, 1), "..\n.")
        self.assert_text_invalid((8, 0), "\n".join("." * 9))

    def test_what_is_not_a_text(self):
        for text in (None, True, False, 0, 7, (), ("..",), [], ["..", ".."]):
            self.assert_text_invalid((0, 0), text)


class Properties(RoomTest):

    def test_rows_text_and_size(self):
        for rows in large_layouts(64):
            room = Room(*rows)
            self.assertIsInstance(room.rows, tuple)
            self.assertEqual(room.rows, rows)
            self.assertEqual(room.text, "\n".join(rows))
            self.assertIsInstance(room.size, tuple)
            self.assertEqual(room.size, (len(rows), len(rows[0])))

    def test_size_counts_rows_first(self):
        self.assertEqual(Room("...", "...").size, (2, 3))

    def test_one_tile_and_eight_by_eight(self):
        self.assertEqual((Room("f").rows, Room("f").text, Room("f").size), (("f",), "f", (1, 1)))
        room = Room(*["........"] * 8)
        self.assertEqual((room.size, len(room), room.turning), ((8, 8), 32, []))

    def test_turning_in_ascending_order(self):
        room = Room("Rr.f", "F..R", "fR.r")
        self.assertEqual(room.turning, [(0, 1), (0, 3), (2, 0), (2, 3)])
        self.assertEqual(Room("RF.").turning, [])

    def test_turning_is_new_for_each_reading(self):
        room = Room("rf")
        room.turning.clear()
        self.assertEqual(room.turning, [(0, 0), (0, 1)])
        self.assertIsNot(room.turning, room.turning)
        self.assertIs(type(room.turning), list)

    def test_properties_are_not_assigned(self):
        room = Room("rf")
        for name in ("rows", "text", "size", "turning"):
            with self.assertRaises(AttributeError):
                setattr(room, name, None)

    def test_class_values(self):
        self.assertEqual((Room.MAX_SIZE, Room.MAX_TURNING), (8, 10))
        self.assertEqual((Room("r").MAX_SIZE, Room("r").MAX_TURNING), (8, 10))


class Signs(RoomTest):

    def test_call_returns_a_tuple(self):
        result = Room("r")(0)
        self.assertIs(type(result), tuple)
        self.assertEqual(result, (3, Room("f")))

    def test_call_refuses_what_is_not_a_port(self):
        room = Room(".r", "f.")
        for port in [-1, 8, 9, 100, -8] + NO_INTEGERS:
            with self.subTest(port), self.assertRaises(UnknownPort):
                room(port)

    def test_call_takes_every_port(self):
        for rows in [("r",), ("rf",), ("F", "."), ("........",) * 8]:
            room = Room(*rows)
            many = 2 * (len(rows) + len(rows[0]))
            for port in range(many):
                self.assertIn(room(port)[0], range(many))
            for port in (-1, many):
                with self.assertRaises(UnknownPort):
                    room(port)

    def test_len(self):
        for rows, many in [(("r",), 4), (("...",), 8), (("..",) * 8, 20), (("........",) * 8, 32)]:
            self.assertEqual(len(Room(*rows)), many)

    def test_tiles(self):
        for rows in large_layouts(64):
            room = Room(*rows)
            for row in range(len(rows)):
                for column in range(len(rows[0])):
                    self.assertEqual(room[row, column], rows[row][column])

    def test_tiles_refuse_everything_else(self):
        room = Room("rfR", "F..")
        for at in [(2, 0), (0, 3), (1, 3), (2, 2), slice(0, 1), (slice(0, 1), 0)] + NO_TILES:
            with self.subTest(at), self.assertRaises(UnknownTile):
                room[at]

    def test_truth(self):
        for rows in small_layouts():
            self.assertIs(bool(Room(*rows)), "r" in "".join(rows) or "f" in "".join(rows))
        self.assertFalse(Room("RF"))
        self.assertTrue(Room("R.f"))

    def test_equal_rooms(self):
        self.assertTrue(Room("rf", "..") == Room("rf", ".."))
        self.assertFalse(Room("rf", "..") != Room("rf", ".."))
        self.assertTrue(Room("rf", "..") == Room.parse("rf\n.."))
        self.assertEqual(~~Room("rf"), Room("rf"))

    def test_unequal_rooms(self):
        room = Room("rf", "..")
        for other in (Room("fr", ".."), Room("Rf", ".."), Room("rf"), Room("rf.."), Room("r", "f"),
                      Room("rf", "..", ".."), ~room):
            self.assertFalse(room == other)
            self.assertTrue(room != other)

    def test_a_room_equals_nothing_else(self):
        room = Room("rf", "..")
        for other in (("rf", ".."), ["rf", ".."], "rf\n..", None, True, 8, 0, ("rf",), object()):
            self.assertIs(room == other, False)
            self.assertIs(room != other, True)
            self.assertIs(other == room, False)

    def test_not_walked(self):
        room = Room("rf", "..")
        with self.assertRaises(TypeError):
            iter(room)
        with self.assertRaises(TypeError):
            list(room)
        with self.assertRaises(TypeError):
            for _ in room:
                pass
        with self.assertRaises(TypeError):
            first, second = room
        with self.assertRaises(TypeError):
            "r" in room

    def test_turned_room(self):
        self.assertEqual((~Room(".rfRF", "FRfr.")).rows, (".frRF", "FRrf."))
        for rows in large_layouts(64):
            swapped = tuple(row.translate(str.maketrans("rf", "fr")) for row in rows)
            self.assertIsInstance(~Room(*rows), Room)
            self.assertEqual((~Room(*rows)).rows, swapped)


class Unchanged(RoomTest):

    def test_rooms_never_change(self):
        for rows in large_layouts(64):
            room = Room(*rows)
            for port in range(len(room)):
                room(port)
            room.turning.append((9, 9))
            self.assertIsNot(~room, room)
            self.assertEqual((room.rows, room.text), (rows, "\n".join(rows)))

    def test_failing_calls_change_nothing(self):
        room = Room("rf")
        with self.assertRaises(UnknownPort):
            room(6)
        with self.assertRaises(UnknownTile):
            room[1, 0]
        with self.assertRaises(TypeError):
            list(room)
        self.assertEqual(room, Room("rf"))

    def test_lists_of_rows_are_not_modified(self):
        rows = ["rf", ".."]
        Room(*rows)
        wrong = ["r", "f"]
        with self.assertRaises(InvalidRoom):
            Room("..", wrong)
        self.assertEqual((rows, wrong), (["rf", ".."], ["r", "f"]))

    def test_repeated_calls(self):
        room = Room("rf.", ".fR", "F.r")
        for port in range(len(room)):
            self.assertEqual(room(port), room(port))
        self.assertEqual(room.turning, room.turning)


if __name__ == "__main__":
    unittest.main()
