"""Hidden tiles (points 1 and 8)."""

import random
import unittest

from mirrorturns.errors import Contradiction, TooMany, UnknownPort, UnknownTile
from mirrorturns.hidden import Observer
from mirrorturns.rooms import Room
from tests.model import NO_INTEGERS, NO_TILES, all_beams, large_layouts, one_beam, with_tile

SIGNS = [".", "r", "f", "R", "F"]

NO_PAIRS = [value for value in NO_INTEGERS if value != (0, 0)]

# What comes to the tile (0, 1), in the middle above, goes round and comes to it once more.
ROUND = ("R.F", "F.R")


class ModelObserver:
    """Sends all observed beams through all five rooms anew each time."""

    def __init__(self, rows, at):
        self.first = {sign: with_tile(rows, at, sign) for sign in SIGNS}
        self.beams = []

    def rooms(self, beams):
        """The signs that agree with beams, and the rows after them."""
        rooms = {}
        for sign, rows in self.first.items():
            exits = []
            for port, _ in beams:
                _, leaving, rows = one_beam(rows, port)
                exits.append(leaving)
            if exits == [leaving for _, leaving in beams]:
                rooms[sign] = rows
        return rooms

    def see(self, *beams):
        many = len(self.rooms(self.beams + list(beams)))
        if many > 0:
            self.beams = self.beams + list(beams)
        return many

    def best_port(self):
        counts = []
        for exits in zip(*[all_beams(rows) for rows in self.rooms(self.beams).values()]):
            places = [leaving for leaving, _ in exits]
            counts.append(max(places.count(place) for place in places))
        return counts.index(min(counts))


class ObserverTest(unittest.TestCase):

    def setUp(self):
        self.observer = Observer(Room(".r", "f."), (0, 1))

    def assert_state(self, observer, signs, history):
        self.assertEqual(observer.signs, signs)
        self.assertEqual(observer.history, history)
        self.assertEqual([observer.see_all(), observer.see_all()], [len(signs)] * 2)


class Examples(ObserverTest):

    def test_see(self):
        self.assertEqual(self.observer.see(6, 1), 2)

    def test_contradiction(self):
        with self.assertRaises(Contradiction):
            self.observer.see(6, 3)

    def test_see_all(self):
        self.assertEqual(self.observer.see_all((6, 1), (6, 5)), 1)

    def test_signs(self):
        self.observer.see(6, 1)
        self.assertEqual(self.observer.signs, ["r", "R"])

    def test_history(self):
        self.observer.see(6, 1)
        self.assertEqual(self.observer.history, [(6, 1)])

    def test_best_port(self):
        self.assertEqual(self.observer.best_port(), 1)


class Start(ObserverTest):

    def test_new(self):
        self.assert_state(self.observer, SIGNS, [])

    def test_given_sign_does_not_matter(self):
        for sign in SIGNS:
            observer = Observer(Room("." + sign, "f."), (0, 1))
            self.assert_state(observer, SIGNS, [])
            self.assertEqual(observer.best_port(), 1)
            self.assertEqual(observer.see(6, 1), 2)
            self.assertEqual(observer.see(6, 5), 1)
            self.assert_state(observer, ["r"], [(6, 1), (6, 5)])

    def test_unknown_tile(self):
        room = Room(".r", "f.")
        for at in NO_TILES + [(2, 0), (0, 2), (2, 2), (-1, -1), (10 ** 20, 0)]:
            with self.assertRaises(UnknownTile):
                Observer(room, at)

    def test_unknown_tile_before_too_many(self):
        room = Room("rrrrr", "fffff", ".....")
        for at in NO_TILES + [(3, 0), (0, 5)]:
            with self.assertRaises(UnknownTile):
                Observer(room, at)

    def test_nine_other_mirrors_that_turn(self):
        for sign in SIGNS:
            observer = Observer(Room("rrrrr", "ffff" + sign), (1, 4))
            self.assert_state(observer, SIGNS, [])
            # From the right, "f" and "F" throw a beam up, to the last mirror of the first row.
            self.assertEqual(observer.see(6, 5), 2)
            self.assertEqual(observer.signs, ["f", "F"])

    def test_ten_other_mirrors_that_turn(self):
        for sign in (".", "R", "F"):
            room = Room("rrrrr", "fffff", sign + "....")
            with self.assertRaises(TooMany):
                Observer(room, (2, 0))
            with self.assertRaises(TooMany):
                Observer(room, (2, 4))

    def test_one_of_ten_mirrors_that_turn(self):
        room = Room("rrrrr", "fffff", ".....")
        for at in [(0, 0), (1, 4)]:
            self.assert_state(Observer(room, at), SIGNS, [])


class EachSign(ObserverTest):

    def test_exits_by_hand(self):
        # Three rows of one tile: port 0 above, 1 to 3 on the right, 4 below, 5 to 7 on the left.
        beams = {".": [(0, 4)], "r": [(0, 6), (0, 2)], "f": [(0, 2), (0, 6)], "R": [(0, 6), (0, 6)],
                 "F": [(0, 2), (0, 2)]}
        for sign, observed in beams.items():
            observer = Observer(Room(".", "r", "."), (1, 0))
            self.assertEqual(observer.see_all(*observed), 1)
            self.assert_state(observer, [sign], observed)

    def test_signs_that_cannot_be_told(self):
        # A beam that comes from above goes round, one way or the other, and back up.
        observer = Observer(Room(*ROUND), (0, 1))
        self.assertEqual(observer.see(1, 1), 2)
        self.assertEqual(observer.see_all((1, 1), (6, 6), (1, 1)), 2)
        self.assertEqual(observer.signs, ["r", "f"])

    def test_mirrors_that_turn_stand_the_other_way_afterwards(self):
        observer = Observer(Room("r"), (0, 0))
        self.assertEqual(observer.see(0, 3), 2)
        self.assertEqual(observer.see(0, 1), 1)
        self.assertEqual(observer.see(0, 3), 1)
        with self.assertRaises(Contradiction):
            observer.see(0, 3)
        self.assertEqual(observer.see(0, 1), 1)
        self.assertEqual(observer.signs, ["r"])

    def test_other_mirrors_turn_too(self):
        # The first beam does not come to the hidden tile, but the second one does.
        observer = Observer(Room("r."), (0, 1))
        self.assertEqual([observer.see(0, 5), observer.see(0, 2)], [5, 1])
        self.assertEqual(observer.signs, ["."])


class See(ObserverTest):

    def test_unknown_port(self):
        for value in NO_INTEGERS + [-1, 8, 10 ** 20]:
            for beam in [(value, 1), (6, value), (value, value)]:
                with self.assertRaises(UnknownPort):
                    self.observer.see(*beam)
        self.assert_state(self.observer, SIGNS, [])

    def test_unknown_port_before_contradiction(self):
        self.observer.see(6, 1)
        for beam in [(6, 8), (8, 3), (-1, 3), (6, None)]:
            with self.assertRaises(UnknownPort):
                self.observer.see(*beam)
        self.assert_state(self.observer, ["r", "R"], [(6, 1)])

    def test_contradiction_changes_nothing(self):
        self.observer.see(6, 1)
        for leaving in (0, 2, 3, 4, 6, 7):
            with self.assertRaises(Contradiction):
                self.observer.see(6, leaving)
            self.assert_state(self.observer, ["r", "R"], [(6, 1)])
        # No beam has been sent by these: the tile still stands as after one beam.
        self.assertEqual(self.observer.see(6, 5), 1)
        self.assert_state(self.observer, ["r"], [(6, 1), (6, 5)])

    def test_same_port(self):
        # A beam comes back only if a mirror throws it aside, into the round.
        observer = Observer(Room(*ROUND), (0, 1))
        self.assertEqual(observer.see(6, 6), 2)
        self.assert_state(observer, ["r", "f"], [(6, 6)])
        with self.assertRaises(Contradiction):
            observer.see(0, 0)
        self.assert_state(observer, ["r", "f"], [(6, 6)])


class SeeAll(ObserverTest):

    def test_none(self):
        self.assertEqual(self.observer.see_all(), 5)
        self.observer.see(6, 1)
        self.assertEqual(self.observer.see_all(), 2)
        self.assertEqual(self.observer.history, [(6, 1)])

    def test_one(self):
        self.assertEqual(self.observer.see_all((6, 1)), 2)
        self.assert_state(self.observer, ["r", "R"], [(6, 1)])

    def test_several_after_others(self):
        self.observer.see_all((6, 1))
        self.assertEqual(self.observer.see_all((6, 5), (6, 1), (6, 5)), 1)
        self.assert_state(self.observer, ["r"], [(6, 1), (6, 5), (6, 1), (6, 5)])

    def test_none_is_accepted_if_one_raises(self):
        self.observer.see_all((6, 1))
        for beams in [((6, 5), (6, 5)), ((6, 5), (6, 1), (6, 3)), ((6, 3), (6, 5))]:
            with self.assertRaises(Contradiction):
                self.observer.see_all(*beams)
            self.assert_state(self.observer, ["r", "R"], [(6, 1)])
        for beams in [((6, 5), (6, 8)), ((6, 5), (8, 5)), ((6, 5), (6, 1), None), ((-1, 0), (6, 5))]:
            with self.assertRaises(UnknownPort):
                self.observer.see_all(*beams)
            self.assert_state(self.observer, ["r", "R"], [(6, 1)])
        self.assertEqual(self.observer.see_all((6, 5), (6, 1)), 1)

    def test_first_error(self):
        with self.assertRaises(Contradiction):
            self.observer.see_all((6, 1), (6, 3), (6, 8))
        with self.assertRaises(UnknownPort):
            self.observer.see_all((6, 1), (6, 8), (6, 3))
        self.assert_state(self.observer, SIGNS, [])

    def test_no_tuples_of_two_ports(self):
        for beam in NO_PAIRS + [0, 6, (6,), (6, 1, 1), [6, 1], "61", (6, "1"), ("6", 1), ((6, 1),),
                                   (6, True), (True, 6), (False, 1), ((6,), 1), (6, [1]), (None, None)]:
            for beams in [(beam,), ((6, 1), beam), (beam, (6, 1)), (beam, (6, 3))]:
                with self.assertRaises(UnknownPort):
                    self.observer.see_all(*beams)
        self.assert_state(self.observer, SIGNS, [])


class BestPort(ObserverTest):

    def test_ties(self):
        # All beams tell "r" and "R" from "f" and "F" and from "." alike.
        self.assertEqual(Observer(Room("r"), (0, 0)).best_port(), 0)
        # In a row, it is the same for all beams that come to the tile: 2 is the first one.
        self.assertEqual(Observer(Room("....", "...."), (1, 2)).best_port(), 2)
        self.assertEqual(Observer(Room("....", "...."), (1, 0)).best_port(), 0)
        self.assertEqual(Observer(Room("....", "...."), (1, 3)).best_port(), 3)

    def test_one_sign_left(self):
        self.observer.see_all((6, 1), (6, 5))
        self.assertEqual(self.observer.best_port(), 0)

    def test_signs_that_cannot_be_told(self):
        observer = Observer(Room(*ROUND), (0, 1))
        observer.see(1, 1)
        self.assertEqual(observer.best_port(), 0)

    def test_after_a_beam(self):
        # Port 0 leaves one sign or two, port 1 all of them, as it does not come to the tile.
        observer = Observer(Room("..", ".."), (0, 0))
        self.assertEqual(observer.best_port(), 0)
        self.assertEqual(observer.see(0, 6), 2)
        self.assertEqual(observer.signs, ["r", "R"])
        # Both throw the next beam aside, too, but "r" now stands the other way.
        self.assertEqual(observer.best_port(), 0)
        self.assertEqual(observer.see(0, 6), 1)
        self.assertEqual(observer.signs, ["R"])

    def test_changes_nothing(self):
        self.observer.see(6, 1)
        for _ in range(3):
            self.observer.best_port()
        self.assert_state(self.observer, ["r", "R"], [(6, 1)])
        self.assertEqual(self.observer.see(6, 5), 1)


class Values(ObserverTest):

    def test_lists_are_new(self):
        self.observer.see(6, 1)
        self.observer.signs.append("f")
        self.observer.signs.clear()
        self.observer.history.append((0, 0))
        self.observer.history.clear()
        self.assert_state(self.observer, ["r", "R"], [(6, 1)])
        self.assertIsNot(self.observer.signs, self.observer.signs)
        self.assertIsNot(self.observer.history, self.observer.history)

    def test_lists_do_not_follow(self):
        signs, history = self.observer.signs, self.observer.history
        self.observer.see(6, 1)
        self.assertEqual([signs, history], [SIGNS, []])

    def test_properties(self):
        for name in ("signs", "history"):
            with self.assertRaises(AttributeError):
                setattr(self.observer, name, [])

    def test_observers_do_not_influence_each_other(self):
        room = Room(".r", "f.")
        one, two = Observer(room, (0, 1)), Observer(room, (0, 1))
        one.see(6, 1)
        self.assert_state(two, SIGNS, [])
        two.see(6, 5)
        two.see_all((6, 1), (6, 5))
        self.assert_state(one, ["r", "R"], [(6, 1)])
        self.assert_state(two, ["f"], [(6, 5), (6, 1), (6, 5)])
        self.assertEqual(room.rows, (".r", "f."))
        self.assertEqual(one.see(6, 1), 1)
        self.assertEqual(one.signs, ["R"])


class WithModel(unittest.TestCase):

    def test_rooms_of_all_sizes(self):
        source = random.Random(8)
        told = set()
        for rows in large_layouts(192):
            at = source.randrange(len(rows)), source.randrange(len(rows[0]))
            others = with_tile(rows, at, ".")
            if sum(row.count("r") + row.count("f") for row in others) == 10:
                with self.assertRaises(TooMany):
                    Observer(Room(*rows), at)
                continue
            model, observer = ModelObserver(rows, at), Observer(Room(*rows), at)
            hidden = with_tile(rows, at, source.choice(SIGNS))
            for number in range(8):
                self.assertEqual(observer.best_port(), model.best_port(), (rows, at, model.beams))
                port = source.randrange(2 * (len(rows) + len(rows[0])))
                if number % 3 == 0:
                    port = model.best_port()
                _, leaving, after = one_beam(hidden, port)
                wrong = (leaving + 1) % (2 * (len(rows) + len(rows[0])))
                if number % 2 and model.see((port, wrong)) > 0:
                    break
                if number % 2:
                    with self.assertRaises(Contradiction):
                        observer.see(port, wrong)
                hidden = after
                self.assertEqual(observer.see(port, leaving), model.see((port, leaving)))
                self.assertEqual(observer.signs, list(model.rooms(model.beams)))
                self.assertEqual(observer.history, model.beams)
            told.add(len(observer.signs))
        self.assertTrue({1, 2, 5} <= told, told)


if __name__ == "__main__":
    unittest.main()
