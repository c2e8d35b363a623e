"""The bench: beams, turns by hand, undo, redo and snapshots (points 1 and 9)."""

import random
import unittest

from mirrorturns.bench import Bench
from mirrorturns.errors import InvalidName, MirrorError, NotTurning, UnknownName, UnknownPort, UnknownTile
from mirrorturns.rooms import Room
from tests.model import NO_INTEGERS, NO_TILES, OTHER, large_layouts, one_beam, with_tile

NO_NAMES = [True, False, None, 0, 1, (), [], ("a",), ["a"], ("a", ["b"]), [["a"]], "", "a" * 9,
            "abcdefghi", "A", "aB", "Abc", "1", "a1", "a b", " ", " a", "a ", "a\n", "\n", "a-b", "a_b", "_",
            "`", "{", "@", "[", "\u00e4", "\u00df", "\u0430", "\uff41", "\u00aa", "a" * 1000, "."]


class ModelBench:
    """Keeps the operations themselves, and executes all of them anew each time."""

    def __init__(self, rows):
        self.first = rows
        self.done = []
        self.undone = []
        self.saved = {}

    def look(self, done):
        """The rows after operations, how many tiles were passed, and the last result."""
        rows, passes, result = self.first, 0, None
        for word, *numbers in done:
            if word == "beam":
                tiles, result, rows = one_beam(rows, numbers[0])
                passes += len(tiles)
            elif word == "turn":
                result = OTHER[rows[numbers[0]][numbers[1]]]
                rows = with_tile(rows, numbers, result)
            else:
                result = sum(row.count("r") + row.count("f") for row in rows)
                rows = tuple("".join(OTHER.get(sign, sign) for sign in row) for row in rows)
        return rows, passes, result

    def execute(self, operation):
        word = operation[0]
        if word == "undo" and self.done:
            self.undone.append(self.done.pop())
            return True
        if word == "redo" and self.undone:
            self.done.append(self.undone.pop())
            return True
        if word in ("undo", "redo"):
            return False
        if word == "save":
            self.saved[operation[1]] = list(self.done), list(self.undone)
            return None
        if word == "restore":
            self.done, self.undone = [list(each) for each in self.saved[operation[1]]]
            return None
        self.done.append(operation)
        self.undone = []
        return self.look(self.done)[2]


class BenchTest(unittest.TestCase):

    def setUp(self):
        self.bench = Bench(Room(".r", "f."))

    def state(self, bench):
        return [bench.room_now.text, bench.passes, bench.operations]

    def assert_state(self, text, passes, operations, bench=None):
        bench = bench or self.bench
        self.assertEqual(self.state(bench), [text, passes, operations])

    def assert_ends(self, undone, redone, bench=None):
        """Tells how many operations can be undone and repeated, and leaves the bench as it was."""
        bench = bench or self.bench
        before = self.state(bench)
        counts = [0, 0]
        while bench.undo():
            counts[0] += 1
        while bench.redo():
            counts[1] += 1
        self.assertEqual(counts, [undone, undone + redone])
        for _ in range(redone):
            self.assertIs(bench.undo(), True)
        self.assertEqual(self.state(bench), before)


class Examples(BenchTest):

    def test_beam(self):
        self.assertEqual(self.bench.beam(6), 1)

    def test_turn(self):
        self.assertEqual(self.bench.turn(0, 1), "f")

    def test_not_turning(self):
        with self.assertRaises(NotTurning):
            self.bench.turn(0, 0)

    def test_turn_all(self):
        self.assertEqual(self.bench.turn_all(), 2)

    def test_undo(self):
        self.bench.turn_all()
        self.assertEqual([self.bench.undo(), self.bench.operations, self.bench.undo()], [True, [], False])

    def test_redo(self):
        self.bench.turn_all()
        self.bench.undo()
        self.assertEqual([self.bench.redo(), self.bench.operations], [True, ["turn_all"]])

    def test_room_now(self):
        self.bench.turn(0, 1)
        self.assertEqual(self.bench.room_now.text, ".f\nf.")

    def test_passes(self):
        self.bench.beam(6)
        self.bench.beam(6)
        self.assertEqual(self.bench.passes, 5)

    def test_operations(self):
        self.bench.beam(6)
        self.assertEqual(self.bench.operations, ["beam"])

    def test_save_and_restore(self):
        self.bench.save("x")
        self.bench.beam(6)
        self.bench.restore("x")
        self.assertEqual(self.bench.passes, 0)


class Operations(BenchTest):

    def test_new(self):
        self.assert_state(".r\nf.", 0, [])
        self.assertEqual(self.bench.room_now, Room(".r", "f."))
        self.assert_ends(0, 0)

    def test_all_words(self):
        self.assertEqual(self.bench.beam(6), 1)
        self.assertEqual(self.bench.turn(1, 0), "r")
        self.assertEqual(self.bench.turn_all(), 2)
        self.assertEqual(self.bench.beam(6), 1)
        self.assertEqual(self.bench.turn(0, 1), "r")
        self.assert_state(".r\nf.", 4, ["beam", "turn", "turn_all", "beam", "turn"])
        self.assert_ends(5, 0)

    def test_signs_of_turned_mirrors(self):
        self.assertEqual([self.bench.turn(0, 1), self.bench.turn(0, 1)], ["f", "r"])
        self.assertEqual([self.bench.turn(1, 0), self.bench.turn(1, 0)], ["r", "f"])
        self.assert_state(".r\nf.", 0, ["turn"] * 4)

    def test_nothing_turns(self):
        bench = Bench(Room("R.", ".F"))
        self.assertEqual(bench.turn_all(), 0)
        self.assertEqual(bench.beam(2), 4)
        self.assert_state("R.\n.F", 3, ["turn_all", "beam"], bench)
        self.assert_ends(2, 0, bench)

    def test_tiles_passed_several_times(self):
        bench = Bench(Room("RrF", "F.R"))
        self.assertEqual(bench.beam(1), 1)
        self.assertEqual(bench.passes, 7)

    def test_unknown_port(self):
        for port in NO_INTEGERS + [-1, 8, 10 ** 20]:
            with self.assertRaises(UnknownPort):
                self.bench.beam(port)
        self.assert_state(".r\nf.", 0, [])

    def test_unknown_tile(self):
        pairs = [at for at in NO_TILES if isinstance(at, tuple) and len(at) == 2]
        self.assertGreater(len(pairs), 10)
        for row, column in pairs + [(2, 0), (0, 2), (2, 2), (-1, -1), (-2, -1), (10 ** 20, 0)]:
            with self.assertRaises(UnknownTile):
                self.bench.turn(row, column)
        self.assert_state(".r\nf.", 0, [])

    def test_not_turning(self):
        bench = Bench(Room(".R", "Fr"))
        for at in [(0, 0), (0, 1), (1, 0)]:
            with self.assertRaises(NotTurning):
                bench.turn(*at)
        with self.assertRaises(UnknownTile):
            bench.turn(0, 2)
        self.assert_state(".R\nFr", 0, [], bench)
        self.assertEqual(bench.turn(1, 1), "f")

    def test_unknown_tile_in_a_room_without_mirrors(self):
        bench = Bench(Room("."))
        with self.assertRaises(UnknownTile):
            bench.turn(0, 1)
        with self.assertRaises(NotTurning):
            bench.turn(0, 0)

    def test_failing_operations_change_nothing(self):
        self.bench.beam(6)
        self.bench.turn_all()
        self.bench.undo()
        with self.assertRaises(UnknownPort):
            self.bench.beam(8)
        with self.assertRaises(UnknownTile):
            self.bench.turn(2, 0)
        with self.assertRaises(NotTurning):
            self.bench.turn(0, 0)
        with self.assertRaises(InvalidName):
            self.bench.save("")
        with self.assertRaises(UnknownName):
            self.bench.restore("a")
        self.assert_state(".f\nf.", 2, ["beam"])
        self.assert_ends(1, 1)
        self.assertIs(self.bench.redo(), True)
        self.assert_state(".r\nr.", 2, ["beam", "turn_all"])

    def test_properties(self):
        for name in ("room_now", "passes", "operations"):
            with self.assertRaises(AttributeError):
                setattr(self.bench, name, None)


class UndoAndRedo(BenchTest):

    def test_nothing_to_undo_or_redo(self):
        self.assertEqual([self.bench.undo(), self.bench.redo()], [False, False])
        self.bench.beam(6)
        self.assertIs(self.bench.redo(), False)
        self.assert_state(".f\nf.", 2, ["beam"])

    def test_both_ends(self):
        states = [self.state(self.bench)]
        for operation in [("beam", 6), ("turn", 0, 1), ("turn_all",), ("beam", 0)]:
            self.bench.batch([operation])
            states.append(self.state(self.bench))
        for state in states[-2::-1]:
            self.assertIs(self.bench.undo(), True)
            self.assertEqual(self.state(self.bench), state)
        self.assertIs(self.bench.undo(), False)
        self.assertEqual(self.state(self.bench), states[0])
        for state in states[1:]:
            self.assertIs(self.bench.redo(), True)
            self.assertEqual(self.state(self.bench), state)
        self.assertIs(self.bench.redo(), False)
        self.assertEqual(self.state(self.bench), states[-1])

    def test_operation_after_an_undo(self):
        operations = {"beam": (6,), "turn": (0, 1), "turn_all": ()}
        for word, numbers in operations.items():
            bench = Bench(Room(".r", "f."))
            bench.beam(0)
            bench.beam(6)
            bench.turn_all()
            bench.undo()
            bench.undo()
            getattr(bench, word)(*numbers)
            state = self.state(bench)
            self.assertIs(bench.redo(), False)
            self.assertEqual(self.state(bench), state)
            self.assertEqual(bench.operations, ["beam", word])
            self.assert_ends(2, 0, bench)

    def test_turn_all_that_turns_nothing_is_an_operation(self):
        bench = Bench(Room("R"))
        bench.beam(0)
        bench.undo()
        self.assertEqual(bench.turn_all(), 0)
        self.assertIs(bench.redo(), False)
        self.assertEqual(bench.operations, ["turn_all"])

    def test_undo_between_redos(self):
        for port in (6, 6, 0):
            self.bench.beam(port)
        self.bench.undo()
        self.bench.undo()
        self.bench.redo()
        self.bench.undo()
        self.assert_ends(1, 2)
        self.assert_state(".f\nf.", 2, ["beam"])

    def test_passes_follow(self):
        bench = Bench(Room("r"))
        bench.beam(0)
        bench.turn(0, 0)
        bench.beam(1)
        self.assertEqual(bench.passes, 2)
        bench.undo()
        self.assertEqual(bench.passes, 1)
        bench.undo()
        self.assertEqual(bench.passes, 1)
        bench.undo()
        self.assertEqual(bench.passes, 0)


class Snapshots(BenchTest):

    def test_results(self):
        self.assertIsNone(self.bench.save("a"))
        self.assertIsNone(self.bench.restore("a"))

    def test_names(self):
        for name in ["a", "z", "abcdefgh", "zzzzzzzz", "az", "mirror"]:
            self.bench.save(name)
            self.bench.restore(name)
        for name in NO_NAMES:
            with self.assertRaises(InvalidName):
                self.bench.save(name)
        self.assert_state(".r\nf.", 0, [])

    def test_unknown_names(self):
        self.bench.save("ab")
        self.bench.beam(6)
        for name in NO_NAMES + ["a", "b", "abc", "ba"]:
            with self.assertRaises(UnknownName):
                self.bench.restore(name)
        self.assert_state(".f\nf.", 2, ["beam"])
        self.assert_ends(1, 0)

    def test_snapshot_restored_several_times(self):
        self.bench.beam(6)
        self.bench.save("a")
        for _ in range(3):
            self.bench.turn_all()
            self.bench.beam(0)
            self.bench.restore("a")
            self.assert_state(".f\nf.", 2, ["beam"])
            self.assert_ends(1, 0)

    def test_snapshot_replaced(self):
        self.bench.save("a")
        self.bench.beam(6)
        self.bench.save("a")
        self.bench.beam(6)
        self.bench.restore("a")
        self.assert_state(".f\nf.", 2, ["beam"])
        self.assert_ends(1, 0)

    def test_failing_save_replaces_nothing(self):
        self.bench.save("a")
        self.bench.beam(6)
        for name in NO_NAMES:
            with self.assertRaises(InvalidName):
                self.bench.save(name)
        self.bench.restore("a")
        self.assert_state(".r\nf.", 0, [])

    def test_several_snapshots(self):
        self.bench.save("a")
        self.bench.beam(6)
        self.bench.save("b")
        self.bench.turn_all()
        self.bench.save("c")
        for name, words in [("b", ["beam"]), ("a", []), ("c", ["beam", "turn_all"]), ("b", ["beam"])]:
            self.bench.restore(name)
            self.assertEqual(self.bench.operations, words)

    def test_undo_history(self):
        self.bench.beam(6)
        self.bench.turn_all()
        self.bench.beam(0)
        self.bench.undo()
        self.bench.undo()
        self.bench.save("a")
        self.assert_ends(1, 2)
        self.bench.turn(0, 1)
        self.assert_ends(2, 0)
        self.bench.restore("a")
        self.assert_state(".f\nf.", 2, ["beam"])
        self.assert_ends(1, 2)
        self.bench.redo()
        self.bench.restore("a")
        self.assert_ends(1, 2)
        self.bench.undo()
        self.assert_state(".r\nf.", 0, [])
        self.bench.restore("a")
        self.assert_ends(1, 2)

    def test_redo_after_save(self):
        self.bench.beam(6)
        self.bench.undo()
        self.bench.save("a")
        self.assertIs(self.bench.redo(), True)
        self.assertEqual(self.bench.operations, ["beam"])

    def test_save_and_restore_are_no_operations(self):
        self.bench.beam(6)
        self.bench.save("a")
        self.bench.restore("a")
        self.assertEqual(self.bench.operations, ["beam"])
        self.assertIs(self.bench.undo(), True)
        self.assertEqual(self.bench.operations, [])

    def test_snapshots_are_not_part_of_the_state(self):
        self.bench.save("a")
        self.bench.beam(6)
        self.bench.save("b")
        self.bench.restore("a")
        # The later snapshot is still there, and so it is after undo and redo.
        self.bench.restore("b")
        self.assertEqual(self.bench.operations, ["beam"])
        self.bench.undo()
        self.bench.restore("b")
        self.assertEqual(self.bench.operations, ["beam"])

    def test_replaced_snapshot_is_not_brought_back(self):
        self.bench.save("a")
        self.bench.save("b")
        self.bench.beam(6)
        self.bench.save("a")
        self.bench.restore("b")
        self.bench.restore("a")
        self.assertEqual(self.bench.operations, ["beam"])

    def test_snapshots_of_another_bench(self):
        other = Bench(Room(".r", "f."))
        self.bench.save("a")
        with self.assertRaises(UnknownName):
            other.restore("a")


class Values(BenchTest):

    def test_operations_are_new(self):
        self.bench.beam(6)
        words = self.bench.operations
        words.append("turn")
        self.bench.operations.clear()
        self.assertEqual(self.bench.operations, ["beam"])
        self.bench.turn_all()
        self.assertEqual(words, ["beam", "turn"])

    def test_room_stays_as_it_was(self):
        room = Room(".r", "f.")
        bench = Bench(room)
        now = bench.room_now
        bench.beam(6)
        bench.turn_all()
        self.assertEqual([room.text, now.text], [".r\nf."] * 2)

    def test_benches_do_not_influence_each_other(self):
        room = Room(".r", "f.")
        one, two = Bench(room), Bench(room)
        one.beam(6)
        one.save("a")
        two.turn_all()
        two.save("a")
        one.undo()
        self.assert_state(".f\nr.", 0, ["turn_all"], two)
        two.undo()
        two.restore("a")
        one.restore("a")
        self.assert_state(".f\nf.", 2, ["beam"], one)
        self.assert_state(".f\nr.", 0, ["turn_all"], two)


class WithModel(BenchTest):

    def some_operation(self, source, rows, names):
        word = source.choice(["beam", "beam", "turn", "turn_all", "undo", "undo", "undo", "redo", "redo",
                              "save", "restore"])
        if word == "beam":
            return word, source.randrange(2 * (len(rows) + len(rows[0])))
        if word == "turn":
            return word, source.randrange(len(rows)), source.randrange(len(rows[0]))
        if word == "save":
            return word, source.choice("abc")
        if word == "restore":
            return word, source.choice(names or ["z"])
        return (word,)

    def test_many_operations(self):
        source = random.Random(9)
        for rows in large_layouts(128):
            model, bench = ModelBench(rows), Bench(Room(*rows))
            for _ in range(25):
                word, *rest = self.some_operation(source, rows, sorted(model.saved))
                if word == "turn" and model.look(model.done)[0][rest[0]][rest[1]] not in OTHER:
                    with self.assertRaises(NotTurning):
                        bench.turn(*rest)
                elif word == "restore" and rest[0] not in model.saved:
                    with self.assertRaises(UnknownName):
                        bench.restore(*rest)
                else:
                    self.assertEqual(getattr(bench, word)(*rest), model.execute((word, *rest)))
                after, passes, _ = model.look(model.done)
                self.assert_state("\n".join(after), passes, [one[0] for one in model.done], bench)
            self.assert_ends(len(model.done), len(model.undone), bench)


class ErrorsTest(unittest.TestCase):

    def test_errors_are_those_of_the_package(self):
        for error in (InvalidName, UnknownName, NotTurning, UnknownPort, UnknownTile):
            self.assertEqual(error.__bases__, (MirrorError,))


if __name__ == "__main__":
    unittest.main()
