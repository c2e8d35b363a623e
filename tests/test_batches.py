"""Batches and replays on the bench (points 1 and 10)."""

import copy
import unittest

from mirrorturns.bench import Bench
from mirrorturns.errors import InvalidOperation, NotTurning, UnknownName, UnknownPort, UnknownTile
from mirrorturns.rooms import Room
from tests.model import NO_INTEGERS, NO_TILES

ALL_WORDS = [("beam", 6), ("turn", 1, 0), ("turn_all",), ("undo",), ("redo",)]

NO_OPERATIONS = [
    None, True, False, 0, 6, "", "beam", "undo", "turn_all", (), [], [()], ((),), ("beam",), ("beam", 6, 6),
    ("turn",), ("turn", 0), ("turn", 0, 1, 0), ("turn", (0, 1)), ("turn_all", 0), ("turn_all", None),
    ("undo", 1), ("undo", ()), ("redo", 1), ("redo", []), ["beam", 6], ["undo"], [("undo",)], (("undo",),),
    ("save", "a"), ("restore", "a"), ("batch", []), ("replay", []), ("passes",), ("room_now",),
    ("operations",), ("see", 6, 1), ("Beam", 6), ("beam ", 6), ("UNDO",), ("turnall",), ("",), ("", 6),
    (None,), (None, 6), (True, 6), (0,), (0, 6), (6, "beam"), (["beam"], 6), (("beam",), 6), ([], 6),
    ("__init__",), ("_execute", 6),
]

NO_LISTS = [None, True, False, 0, 1, "", "beam", "undo", (), ("undo",), (("undo",),), (("beam", 6), ("undo",))]


class BatchTest(unittest.TestCase):

    def setUp(self):
        self.room = Room(".r", "f.")
        self.bench = Bench(self.room)

    def state(self, bench):
        return [bench.room_now.text, bench.passes, bench.operations]

    def assert_invalid(self, place, call, *arguments):
        with self.assertRaises(InvalidOperation) as caught:
            call(*arguments)
        self.assertEqual(caught.exception.place, place, arguments)

    def prepared(self):
        """A bench with two operations in effect, two that are undone, and a snapshot."""
        bench = Bench(Room(".r", "f."))
        bench.turn_all()
        bench.save("a")
        for port in (6, 6, 0):
            bench.beam(port)
        bench.undo()
        bench.undo()
        return bench

    def assert_prepared(self, bench):
        self.assertEqual(self.state(bench), [".r\nr.", 3, ["turn_all", "beam"]])
        self.assertEqual([bench.redo(), bench.redo(), bench.redo()], [True, True, False])
        self.assertEqual(bench.operations, ["turn_all"] + ["beam"] * 3)
        self.assertEqual([bench.undo() for _ in range(5)], [True] * 4 + [False])
        self.assertEqual(self.state(bench), [".r\nf.", 0, []])
        bench.restore("a")
        self.assertEqual(self.state(bench), [".f\nr.", 0, ["turn_all"]])
        with self.assertRaises(UnknownName):
            bench.restore("b")


class Examples(BatchTest):

    def test_batch(self):
        self.assertEqual(self.bench.batch([("beam", 6), ("undo",)]), [1, True])

    def test_invalid_operation(self):
        self.assert_invalid(0, self.bench.batch, [("turn", 0)])

    def test_replay(self):
        bench = Bench.replay(Room("r"), [("beam", 0)])
        self.assertEqual(bench.room_now.text, "f")


class Batch(BatchTest):

    def test_prepared(self):
        self.assert_prepared(self.prepared())

    def test_empty(self):
        self.assertEqual(self.bench.batch([]), [])
        bench = self.prepared()
        self.assertEqual(bench.batch([]), [])
        self.assert_prepared(bench)

    def test_all_words(self):
        self.assertEqual(self.bench.batch(ALL_WORDS), [1, "r", 2, True, True])
        self.assertEqual(self.state(self.bench), [".r\nf.", 2, ["beam", "turn", "turn_all"]])
        self.assertEqual([self.bench.undo() for _ in range(4)], [True] * 3 + [False])

    def test_undo_and_redo_with_nothing_there(self):
        results = self.bench.batch([("undo",), ("redo",), ("beam", 6), ("redo",), ("undo",), ("undo",), ("redo",)])
        self.assertEqual(results, [False, False, 1, False, True, False, True])
        self.assertEqual(self.bench.operations, ["beam"])

    def test_operations_before_the_batch(self):
        bench = self.prepared()
        self.assertEqual(bench.batch([("redo",), ("undo",), ("undo",), ("undo",), ("undo",)]),
                         [True, True, True, True, False])
        self.assertEqual(self.state(bench), [".r\nf.", 0, []])

    def test_each_operation_is_undone_alone(self):
        self.bench.batch([("beam", 6), ("turn_all",)])
        self.bench.undo()
        self.assertEqual(self.state(self.bench), [".f\nf.", 2, ["beam"]])

    def test_batch_between_other_operations(self):
        self.bench.beam(6)
        self.bench.undo()
        self.bench.batch([("turn_all",)])
        self.assertIs(self.bench.redo(), False)
        self.assertEqual(self.bench.operations, ["turn_all"])

    def test_no_list(self):
        for value in NO_LISTS:
            bench = self.prepared()
            self.assert_invalid(0, bench.batch, value)
            self.assert_prepared(bench)

    def test_malformed_entry_at_each_place(self):
        for entry in NO_OPERATIONS:
            for place in range(len(ALL_WORDS) + 1):
                bench = self.prepared()
                self.assert_invalid(place, bench.batch, ALL_WORDS[:place] + [entry] + ALL_WORDS[place:])
                self.assertEqual(self.state(bench), [".r\nr.", 3, ["turn_all", "beam"]])
        self.assert_prepared(bench)

    def test_first_malformed_entry(self):
        self.assert_invalid(1, self.bench.batch, [("undo",), ("turn",), None, ("beam", 6)])
        self.assert_invalid(0, self.bench.batch, [None, None])

    def test_malformed_entry_before_anything_is_executed(self):
        bench = self.prepared()
        self.assert_invalid(2, bench.batch, [("beam", 8), ("turn", 0, 0), ("undo", 0)])
        self.assert_prepared(bench)

    def test_failing_operation(self):
        failing = [(("beam", 8), UnknownPort), (("beam", -1), UnknownPort), (("turn", 0, 0), NotTurning),
                   (("turn", 2, 0), UnknownTile), (("turn", 0, -1), UnknownTile)]
        failing += [(("beam", value), UnknownPort) for value in NO_INTEGERS]
        failing += [(("turn", *at), UnknownTile) for at in NO_TILES
                    if isinstance(at, tuple) and len(at) == 2]
        for entry, error in failing:
            for place in range(len(ALL_WORDS) + 1):
                bench = self.prepared()
                with self.assertRaises(error):
                    bench.batch(ALL_WORDS[:place] + [entry] + ALL_WORDS[place:])
                self.assert_prepared(bench)

    def test_failing_after_undo_and_redo(self):
        for operations in [[("undo",)], [("redo",)], [("undo",), ("turn_all",)], [("undo",)] * 5,
                           [("redo",)] * 5, [("redo",), ("beam", 0)]]:
            bench = self.prepared()
            with self.assertRaises(UnknownPort):
                bench.batch(operations + [("beam", 8)])
            self.assert_prepared(bench)

    def test_first_error_of_several(self):
        with self.assertRaises(NotTurning):
            self.bench.batch([("undo",), ("turn", 0, 0), ("beam", 8)])
        with self.assertRaises(UnknownPort):
            self.bench.batch([("beam", 8), ("turn", 0, 0)])

    def test_snapshot_is_not_changed(self):
        bench = self.prepared()
        bench.restore("a")
        with self.assertRaises(UnknownPort):
            bench.batch([("undo",), ("beam", 6), ("beam", 8)])
        self.assertEqual(self.state(bench), [".f\nr.", 0, ["turn_all"]])
        bench.batch([("undo",), ("beam", 6)])
        bench.restore("a")
        self.assertEqual(self.state(bench), [".f\nr.", 0, ["turn_all"]])

    def test_argument_is_not_modified(self):
        operations = list(ALL_WORDS)
        self.bench.batch(operations)
        self.assertEqual(operations, ALL_WORDS)
        for bad in (("beam", [8]), ["beam", 8], ("turn", [0], [[1]])):
            operations = [("beam", 6), bad]
            before = copy.deepcopy(operations)
            with self.assertRaises(ValueError):
                self.bench.batch(operations)
            self.assertEqual(operations, before)

    def test_results_are_new(self):
        operations = [("beam", 6), ("turn_all",)]
        results = self.bench.batch(operations)
        results.clear()
        operations.clear()
        self.assertEqual(self.state(self.bench), [".r\nr.", 2, ["beam", "turn_all"]])
        self.assertEqual(self.bench.batch([("undo",)]), [True])

    def test_same_error_again(self):
        for _ in range(2):
            self.assert_invalid(1, self.bench.batch, [("undo",), ("beam",)])
            with self.assertRaises(UnknownPort):
                self.bench.batch([("beam", 6), ("beam", 8)])
        self.assertEqual(self.state(self.bench), [".r\nf.", 0, []])


class Replay(BatchTest):

    def test_empty(self):
        bench = Bench.replay(self.room, [])
        self.assertIsInstance(bench, Bench)
        self.assertEqual(self.state(bench), [".r\nf.", 0, []])
        self.assertEqual([bench.undo(), bench.redo()], [False, False])

    def test_same_as_a_batch(self):
        for operations in [ALL_WORDS, [("undo",), ("redo",)], [("beam", 6), ("beam", 6), ("undo",)]]:
            other = Bench(self.room)
            other.batch(operations)
            bench = Bench.replay(self.room, operations)
            self.assertEqual(self.state(bench), self.state(other))
            self.assertEqual([bench.redo(), self.state(bench)], [other.redo(), self.state(other)])
            for _ in range(4):
                self.assertEqual([bench.undo(), self.state(bench)], [other.undo(), self.state(other)])

    def test_undone_operations_can_be_repeated(self):
        bench = Bench.replay(self.room, [("beam", 6), ("turn_all",), ("undo",), ("undo",)])
        self.assertEqual([bench.redo(), bench.redo(), bench.redo()], [True, True, False])
        self.assertEqual(self.state(bench), [".r\nr.", 2, ["beam", "turn_all"]])

    def test_no_list(self):
        for value in NO_LISTS:
            self.assert_invalid(0, Bench.replay, self.room, value)

    def test_malformed_entry_at_each_place(self):
        for entry in NO_OPERATIONS:
            for place in range(len(ALL_WORDS) + 1):
                self.assert_invalid(place, Bench.replay, self.room,
                                    ALL_WORDS[:place] + [entry] + ALL_WORDS[place:])

    def test_failing_entry_at_each_place(self):
        for entry in [("beam", 8), ("beam", True), ("beam", [6]), ("turn", 0, 0), ("turn", 2, 0),
                      ("turn", None, 0), ("turn", 0, False)]:
            for place in range(len(ALL_WORDS) + 1):
                self.assert_invalid(place, Bench.replay, self.room,
                                    ALL_WORDS[:place] + [entry] + ALL_WORDS[place:])

    def test_first_entry_of_both_kinds(self):
        self.assert_invalid(0, Bench.replay, self.room, [("beam", 8), ("beam",)])
        self.assert_invalid(0, Bench.replay, self.room, [("beam",), ("beam", 8)])
        self.assert_invalid(1, Bench.replay, self.room, [("undo",), ("turn", 0, 0), None, ("beam", 8)])
        self.assert_invalid(1, Bench.replay, self.room, [("undo",), None, ("turn", 0, 0)])

    def test_arguments_are_not_modified(self):
        operations = list(ALL_WORDS)
        bench = Bench.replay(self.room, operations)
        self.assertEqual([operations, self.room.text], [ALL_WORDS, ".r\nf."])
        operations.clear()
        self.assertEqual(bench.operations, ["beam", "turn", "turn_all"])

    def test_new_bench_for_each_call(self):
        one = Bench.replay(self.room, [("beam", 6)])
        two = Bench.replay(self.room, [("beam", 6)])
        one.save("a")
        one.turn_all()
        self.assertEqual(self.state(two), [".f\nf.", 2, ["beam"]])
        with self.assertRaises(UnknownName):
            two.restore("a")


if __name__ == "__main__":
    unittest.main()
