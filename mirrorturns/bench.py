"""A bench: beams through a room, with undo, snapshots and batches."""

from mirrorturns.errors import InvalidName, InvalidOperation, MirrorError, NotTurning, UnknownName
from mirrorturns.mirrors import TURNING, turned
from mirrorturns.rooms import path, with_sign

ARGUMENTS = {"beam": 1, "turn": 2, "turn_all": 0, "undo": 0, "redo": 0}
LETTERS = "abcdefghijklmnopqrstuvwxyz"
MAX_LETTERS = 8


def is_name(name):
    """Tells whether a value is a name for a snapshot."""
    if not isinstance(name, str) or not 1 <= len(name) <= MAX_LETTERS:
        return False
    return all([letter in LETTERS for letter in name])


def is_operation(entry):
    """Tells whether an entry is a tuple of a word and the right number of arguments."""
    if not isinstance(entry, tuple) or not entry or not isinstance(entry[0], str):
        return False
    return ARGUMENTS.get(entry[0]) == len(entry) - 1


def check_list(operations):
    """Raises InvalidOperation for anything that is not a list."""
    if not isinstance(operations, list):
        raise InvalidOperation(0)


def check_operation(operations, place):
    """Raises InvalidOperation for a malformed entry of a list."""
    if not is_operation(operations[place]):
        raise InvalidOperation(place)


class Bench:
    """Sends beams through a room, and turns its mirrors by hand."""

    def __init__(self, room):
        self._first_room = room
        # Steps in effect, and steps undone, the last one of each at the end: a
        # step is the word, the room afterwards, and how many tiles were passed.
        self._done = []
        self._undone = []
        self._snapshots = {}

    def beam(self, port):
        """Sends a beam in; returns the port at which it leaves."""
        room = self.room_now
        leaving, after = room(port)
        tiles = list(path(room, port))
        self._take_step("beam", after, len(tiles))
        return leaving

    def turn(self, row, column):
        """Turns a mirror by hand; returns its new sign."""
        room = self.room_now
        sign = room[row, column]
        if sign not in TURNING:
            raise NotTurning("no mirror that turns")
        new_sign = turned(sign)
        self._take_step("turn", with_sign(room, (row, column), new_sign), 0)
        return new_sign

    def turn_all(self):
        """Turns all mirrors that turn by hand; returns how many these are."""
        room = self.room_now
        self._take_step("turn_all", ~room, 0)
        return len(room.turning)

    def undo(self):
        """Undoes the last operation in effect; returns whether there was one."""
        if not self._done:
            return False
        self._undone.append(self._done.pop())
        return True

    def redo(self):
        """Repeats the operation that was undone last; returns whether there was one."""
        if not self._undone:
            return False
        self._done.append(self._undone.pop())
        return True

    @property
    def room_now(self):
        """The room."""
        if not self._done:
            return self._first_room
        _, room, _ = self._done[-1]
        return room

    @property
    def passes(self):
        """How many tiles all beams in effect have passed, each as often as it was."""
        return sum([passed for _, _, passed in self._done])

    @property
    def operations(self):
        """The list of the words of all operations in effect, in order."""
        return [word for word, _, _ in self._done]

    def save(self, name):
        """Saves the complete state under a name."""
        if not is_name(name):
            raise InvalidName("no name of one to eight letters a to z")
        self._snapshots[name] = self._state()

    def restore(self, name):
        """Restores a snapshot."""
        # Only a string is asked for: a list, or a tuple with one, is no key of a dict.
        if not isinstance(name, str) or name not in self._snapshots:
            raise UnknownName("no snapshot of this name")
        self._go_back(self._snapshots[name])

    def batch(self, operations):
        """Executes operations, all or none; returns the list of their results."""
        check_list(operations)
        for place in range(len(operations)):
            check_operation(operations, place)
        before = self._state()
        results = []
        try:
            for entry in operations:
                results.append(self._execute(entry))
        except MirrorError:
            self._go_back(before)
            raise
        return results

    @classmethod
    def replay(cls, room, operations):
        """Returns a bench after the operations."""
        check_list(operations)
        bench = cls(room)
        for place, entry in enumerate(operations):
            check_operation(operations, place)
            try:
                bench._execute(entry)
            except MirrorError:
                raise InvalidOperation(place) from None
        return bench

    def _take_step(self, word, room, passed):
        """Adds a step; what was undone before it can no longer be repeated."""
        self._done.append((word, room, passed))
        self._undone = []

    def _state(self):
        """Returns a copy of the complete state."""
        return list(self._done), list(self._undone)

    def _go_back(self, state):
        """Takes over a copy of a state, which stays as it is."""
        done, undone = state
        self._done = list(done)
        self._undone = list(undone)

    def _execute(self, entry):
        """Executes an entry of a list of operations; returns its result."""
        word = entry[0]
        if word == "beam":
            return self.beam(entry[1])
        if word == "turn":
            return self.turn(entry[1], entry[2])
        if word == "turn_all":
            return self.turn_all()
        if word == "undo":
            return self.undo()
        return self.redo()
