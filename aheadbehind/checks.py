"""Checks of what is passed, for parameters that several functions have."""

from aheadbehind.basics import is_list, is_sign, is_state
from aheadbehind.errors import InvalidRow, InvalidState


def first_wrong(values, right):
    """The position of the first value that is not right or stands ahead; None if there is none.

    The list right tells of each value whether it is right; a right value can be a key of a dict.
    """
    seen = {}
    for position, value in enumerate(values):
        if not right[position] or value in seen:
            return position
        seen[value] = True
    return None


def check_row(row):
    """Raise InvalidRow unless row is a list of signs."""
    if not is_list(row):
        raise InvalidRow(None)
    for position, sign in enumerate(row):
        if not is_sign(sign):
            raise InvalidRow(position)


def check_state(states, state):
    """Raise InvalidState unless state is one of a box with so many states."""
    if not is_state(states, state):
        raise InvalidState(state)
