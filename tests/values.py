"""Values of unlike kinds that the tests pass where something else is asked for."""

from aheadbehind.boxes import Box

MOST_DIGITS = 10 ** 30 - 1


class EqualToAll:
    """An object that calls itself equal to whatever it meets."""

    def __eq__(self, other):
        return True

    def __hash__(self):
        return 0


def nested(depth):
    """A list that is nested so deep."""
    value = []
    for _ in range(depth - 1):
        value = [value]
    return value


def unlike_values():
    """Values of many kinds, new ones at each call; no one of them is a float."""
    numbers = [True, False, 0, 1, 2, -1, 5, 6, 7, 24, 25, MOST_DIGITS, -MOST_DIGITS]
    strings = ["", "a", "go", "eightlet", "ninewords", "Go", "g o", "go1", "0", "go\n", "a" * 10000]
    data = [b"", b"go", bytearray(b"go"), None, Ellipsis, NotImplemented]
    lists = [[], [0], [True], [0, 0], ["go"], [None], [("go", "ok")], [("go", "ok", 0)], [(0, "go", "ok", 0)]]
    tuples = [tuple(value) for value in lists]
    pairs = [("go", "ok"), ("go", True), (0, "go", "ok", 0), (0, "go", "ok", 1), (True, "go", "ok", 0)]
    tables = [{}, {0: 0}, {"go": "ok"}, set(), {0}, frozenset([0]), range(0), range(1), slice(0, 1)]
    objects = [object(), EqualToAll(), len, int, ValueError("no"), ValueError, Box, Box(1, [0]), nested(8)]
    return numbers + strings + data + lists + tuples + pairs + tables + objects


def told(value):
    """A short text of a value, for the message of a test that fails."""
    return repr(value)[:60]


def late():
    """A box that chooses at the call look what it answers."""
    return Box(3, [0], [(0, "flip", "ok", 1), (1, "look", "tail", 2), (1, "look", "head", 2)])


def early():
    """A box that chooses at the call flip, unseen, what it will answer to look."""
    steps = [(0, "flip", "ok", 1), (0, "flip", "ok", 2), (1, "look", "head", 3), (2, "look", "tail", 3)]
    return Box(4, [0], steps)


def many_steps(count):
    """So many unlike steps between six states, at most 36, the last ones first."""
    steps = [(state, "go", "ok", to) for state in range(6) for to in range(6)]
    return steps[:count][::-1]


def parts(box):
    """All that a box tells of its parts, to see that it did not change."""
    inner = [box[state] for state in range(box.states)]
    return box.states, box.starts(), box.steps(), box.reachable(), inner, len(box), repr(box)
