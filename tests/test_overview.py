"""What holds over the whole program (point 1)."""

import ast
import copy
import pathlib
import unittest

from mirrorturns.bench import Bench
from mirrorturns.errors import MirrorError
from mirrorturns.hidden import Observer
from mirrorturns.journeys import count_rooms, fewest_beams, telling_beams
from mirrorturns.repeats import after_beams, count_passes, find_cycle, never_passed, nth_exit
from mirrorturns.rooms import Room, path, send, unsent
from tests.model import large_layouts, small_layouts

PACKAGE = pathlib.Path(__file__).resolve().parent.parent / "mirrorturns"


def plain(value):
    """A value with rooms as their rows, to be compared and copied."""
    if isinstance(value, Room):
        return "room", value.rows
    if isinstance(value, list):
        return [plain(each) for each in value]
    if isinstance(value, tuple):
        return tuple(plain(each) for each in value)
    return value


def outcome(call, *arguments):
    """What a call returns, or the error that it raises with its attributes."""
    try:
        return "value", plain(call(*arguments))
    except MirrorError as error:
        return "error", error.__class__, vars(error)


def all_calls(room):
    """Calls of all functions, and of what a room can be asked, some with invalid arguments."""
    other = ~room
    last = len(room) - 1
    tile = (len(room.rows) - 1, 0)
    calls = [(room, port) for port in (0, last, last + 1)]
    calls += [(lambda port: list(path(room, port)), port) for port in (0, last, -1)]
    calls += [(send, room), (send, room, 0, last, 0), (send, room, 0, None), (unsent, room, last, 0),
              (unsent, room, last, last + 1)]
    for port in (0, last, None):
        for number in (0, 1, 3, 10 ** 18, 10 ** 18 + 1):
            calls += [(nth_exit, room, port, number), (after_beams, room, port, number),
                      (count_passes, room, port, tile, number)]
        calls += [(find_cycle, room, port), (never_passed, room, port)]
    calls += [(count_rooms, room), (Room.parse, room.text), (Room.parse, "x"), (room.__getitem__, tile)]
    for each in (room, other, Room("r")):
        calls += [(fewest_beams, room, each), (telling_beams, room, each)]
    calls += [(lambda: [room.rows, room.text, room.size, room.turning, len(room), bool(room), ~room],)]
    return calls


class Repeated(unittest.TestCase):

    def layouts(self):
        small = [rows for number, rows in enumerate(small_layouts()) if number % 97 == 0]
        large = [rows for rows in large_layouts(64)
                 if sum(row.count("r") + row.count("f") for row in rows) <= 5]
        return small + large[::3]

    def test_calls_in_turns_with_other_rooms(self):
        """The calls of one room are repeated between those of others, and on equal rooms."""
        layouts = self.layouts()
        rooms = [Room(*rows) for rows in layouts]
        first = [[outcome(*call) for call in all_calls(room)] for room in rooms]
        calls = [all_calls(room) for room in rooms]
        again = [[] for _ in rooms]
        for at in range(len(calls[0])):
            for number in reversed(range(len(rooms))):
                again[number].append(outcome(*calls[number][at]))
        self.assertEqual(again, first)
        for rows, expected in zip(layouts, first):
            self.assertEqual([outcome(*call) for call in all_calls(Room(*rows))], expected)
        self.assertEqual([room.rows for room in rooms], layouts)

    def test_errors_come_again(self):
        kinds = set()
        for call in all_calls(Room("rF", ".f")):
            found = outcome(*call)
            if found[0] == "error":
                kinds.add(found[1].__name__)
            self.assertEqual(outcome(*call), found)
        self.assertEqual(kinds, {"InvalidNumber", "InvalidRoom", "OtherRoom", "UnknownPort"})

    def test_modified_lists_change_nothing(self):
        for rows in self.layouts()[::4]:
            room = Room(*rows)
            for call in all_calls(room):
                expected = outcome(*call)
                if expected[0] == "error":
                    continue
                value = call[0](*call[1:])
                for each in (value if isinstance(value, (tuple, list)) else ()):
                    if isinstance(each, list):
                        each.append("more")
                        each.reverse()
                if isinstance(value, list):
                    value.append("more")
                    value.reverse()
                self.assertEqual(outcome(*call), expected)

    def test_arguments_are_not_modified(self):
        for value in ([], [0], [[0]], ["r"], ["beam", 0]):
            room = Room("r.", ".f")
            before = copy.deepcopy(value)
            calls = [(room, value), (send, room, 0, value), (unsent, room, value), (nth_exit, room, value, 1),
                     (nth_exit, room, 0, value), (count_passes, room, 0, value, 1), (Observer, room, value),
                     (Observer(room, (0, 0)).see, value, 0), (Observer(room, (0, 0)).see_all, value),
                     (fewest_beams, room, value), (telling_beams, room, value), (Bench(room).beam, value),
                     (Bench(room).turn, value, 0), (Bench(room).save, value), (Bench(room).restore, value),
                     (Bench(room).batch, [value]), (Bench.replay, room, [value]), (Room, value),
                     (Room.parse, value)]
            for call in calls:
                self.assertEqual(outcome(*call)[0], "error", call)
                self.assertEqual(value, before)


class SeveralObjects(unittest.TestCase):

    def test_benches_and_observers_in_turns(self):
        """What is done alone, and in turns with other objects on the same room, gives the same."""
        room = Room("r.f", ".rF", "f.R")

        def steps(bench, observer):
            yield lambda: bench.beam(3)
            yield lambda: observer.see(0, Bench.replay(room, []).beam(0))
            yield lambda: bench.turn(0, 0)
            yield lambda: [bench.save("a"), bench.beam(8)]
            yield lambda: observer.best_port()
            yield lambda: bench.batch([("undo",), ("beam", 5), ("beam", 12)])
            yield lambda: [bench.undo(), bench.redo(), bench.turn_all()]
            yield lambda: observer.see_all()
            yield lambda: [bench.operations, bench.passes, bench.room_now.text]
            yield lambda: [observer.signs, observer.history]
            yield lambda: [bench.restore("a"), bench.operations, bench.passes]

        def make():
            return steps(Bench(room), Observer(room, (1, 1)))

        alone = [outcome(step) for step in make()]
        together = [[outcome(step) for step in several] for several in zip(make(), make(), make())]
        self.assertEqual(together, [[expected] * 3 for expected in alone])
        self.assertEqual(room.rows, ("r.f", ".rF", "f.R"))


class NothingFromOutside(unittest.TestCase):

    def test_builtins_that_read_or_write(self):
        barred = {"open", "print", "input", "eval", "exec", "compile", "__import__", "globals", "id", "hash"}
        for file in PACKAGE.glob("*.py"):
            names = {node.id for node in ast.walk(ast.parse(file.read_text())) if isinstance(node, ast.Name)}
            self.assertEqual(names & barred, set(), file)


if __name__ == "__main__":
    unittest.main()
