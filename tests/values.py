"""Values of unlike kinds that the tests pass where something else is asked for."""

from aheadbehind.basics import is_integer, is_name, is_sign
from aheadbehind.boxes import Box, made_box

MOST_DIGITS = 10 ** 30 - 1


class EqualToAll:
    """An object that calls itself equal to whatever it meets."""

    def __eq__(self, other):
        return True

    def __hash__(self):
        return 0


def nested(depth):
    """A list that is nested so deep."""
    value = []
    for _ in range(depth - 1):
        value = [value]
    return value


def unlike_values():
    """Values of many kinds, new ones at each call; no one of them is a float."""
    numbers = [True, False, 0, 1, 2, -1, 5, 6, 7, 24, 25, MOST_DIGITS, -MOST_DIGITS]
    strings = ["", "a", "go", "eightlet", "ninewords", "Go", "g o", "go1", "0", "go\n", "a" * 10000]
    data = [b"", b"go", bytearray(b"go"), None, Ellipsis, NotImplemented]
    lists = [[], [0], [True], [0, 0], ["go"], [None], [("go", "ok")], [("go", "ok", 0)], [(0, "go", "ok", 0)]]
    tuples = [tuple(value) for value in lists]
    pairs = [("go", "ok"), ("go", True), (0, "go", "ok", 0), (0, "go", "ok", 1), (True, "go", "ok", 0)]
    tables = [{}, {0: 0}, {"go": "ok"}, set(), {0}, frozenset([0]), range(0), range(1), slice(0, 1)]
    objects = [object(), EqualToAll(), len, int, ValueError("no"), ValueError, Box, Box(1, [0]), nested(8)]
    return numbers + strings + data + lists + tuples + pairs + tables + objects


def told(value):
    """A short text of a value, for the message of a test that fails."""
    return repr(value)[:60]


def late():
    """A box that chooses at the call look what it answers."""
    return Box(3, [0], [(0, "flip", "ok", 1), (1, "look", "tail", 2), (1, "look", "head", 2)])


def early():
    """A box that chooses at the call flip, unseen, what it will answer to look."""
    steps = [(0, "flip", "ok", 1), (0, "flip", "ok", 2), (1, "look", "head", 3), (2, "look", "tail", 3)]
    return Box(4, [0], steps)


def many_steps(count):
    """So many unlike steps between six states, at most 36, the last ones first."""
    steps = [(state, "go", "ok", to) for state in range(6) for to in range(6)]
    return steps[:count][::-1]


def parts(box):
    """All that a box tells of its parts, to see that it did not change."""
    inner = [box[state] for state in range(box.states)]
    return box.states, box.starts(), box.steps(), box.reachable(), inner, len(box), repr(box)


def wrong_lists(good, is_right):
    """Tuples (list, position): lists with one wrong element at each place of the good ones; no lists at all, None."""
    wrong = [(value, None) for value in unlike_values() if not isinstance(value, (list, tuple))]
    for value in unlike_values():
        if not is_right(value):
            for place in range(len(good) + 1):
                values = good[:place] + [value] + good[place:]
                wrong.append((values, place))
                wrong.append((tuple(values), place))
    return wrong


def wrong_rows():
    """Tuples (row, position) of values that are no rows, and what InvalidRow tells of them."""
    return wrong_lists([("flip", "ok"), ("look", "head")], is_sign) + [
        ([("flip", True)], 0), ([("flip", "ok"), ["look", "head"]], 1), ([("flip", "ok", "ok")], 0), ([("flip",)], 0),
        ([("flip", "ok"), None, 0], 1), (iter([("flip", "ok")]), None), ({("flip", "ok"): 1}, None),
    ]


def wrong_calls():
    """Tuples (calls, position) of values that are no lists of unlike calls, and what InvalidCalls tells of them."""
    return wrong_lists(["stop", "wait"], is_name) + [
        (["go", "go"], 1), (("go", "stop", "go"), 2), (["a", "b", "b", "a"], 2), ([b"go"], 0), (["go", None, 0], 1),
        (["go", ("go",)], 1), (iter(["go"]), None), ({"go": 1}, None), ("go", None), ([EqualToAll(), "go"], 0),
    ]


def wrong_states(states):
    """Values that are no states of a box with so many."""
    return [value for value in unlike_values() if not is_integer(value) or not 0 <= value < states] + [-1, states]


def wrong_somes(states):
    """Values that are no lists of unlike states of a box with so many, at least three."""
    wrong = [values for values, _ in wrong_lists([0, 2], lambda value: is_integer(value) and 0 <= value < states)]
    return wrong + [[0, 0], [2, 1, 2], (1, 1), [states], [-1], [0, states], [False], [1, True], iter([0]), {0: 1}]


def wrong_kinds():
    """Values that are neither of the two kinds."""
    words = ["Remembering", "remembering ", "guess", "remembered", "guessing\n", "both", b"guessing"]
    return unlike_values() + words + [["guessing"], ("remembering",), {"guessing": 1}]


def wrong_numbers(least, most):
    """Values that are no integers from the least to the most one."""
    wrong = [value for value in unlike_values() if not is_integer(value) or not least <= value <= most]
    return wrong + [least - 1, most + 1, str(least), [least], (most,)]


def wide(states, starts=(0,), steps=()):
    """A box as the package makes them, with any number of states and steps."""
    return made_box(states, list(starts), list(steps))


def ring(states):
    """A box without limits that goes round all its states with one sign."""
    return wide(states, [0], [(state, "go", "ok", (state + 1) % states) for state in range(states)])
