"""Checks of what is passed, for parameters that several functions have."""

from aheadbehind.basics import is_integer, is_list, is_name, is_sign, is_state
from aheadbehind.errors import (
    InvalidCalls, InvalidKind, InvalidNumber, InvalidRow, InvalidSet, InvalidState, TooMany,
)

REMEMBERING = "remembering"
GUESSING = "guessing"
MOST_LIMITED = 7


def first_wrong(values, right):
    """The position of the first value that is not right or stands ahead; None if there is none.

    The list right tells of each value whether it is right; a right value can be a key of a dict.
    """
    seen = {}
    for position, value in enumerate(values):
        if not right[position] or value in seen:
            return position
        seen[value] = True
    return None


def check_row(row):
    """Raise InvalidRow unless row is a list of signs."""
    if not is_list(row):
        raise InvalidRow(None)
    for position, sign in enumerate(row):
        if not is_sign(sign):
            raise InvalidRow(position)


def check_state(states, state):
    """Raise InvalidState unless state is one of a box with so many states."""
    if not is_state(states, state):
        raise InvalidState(state)


def check_some(states, some):
    """Raise InvalidSet unless some is a list of unlike states of a box with so many."""
    if not is_list(some) or first_wrong(some, [is_state(states, state) for state in some]) is not None:
        raise InvalidSet(some)


def is_kind(value):
    """Whether any value is one of the two words."""
    return isinstance(value, str) and value in (REMEMBERING, GUESSING)


def check_kind(kind):
    """Raise InvalidKind unless kind is one of the two words."""
    if not is_kind(kind):
        raise InvalidKind(kind)


def check_calls(calls):
    """Raise InvalidCalls unless calls is a list of unlike names."""
    if not is_list(calls):
        raise InvalidCalls(None)
    position = first_wrong(calls, [is_name(call) for call in calls])
    if position is not None:
        raise InvalidCalls(position)


def check_number(number, least, most):
    """Raise InvalidNumber unless number is an integer from the least to the most one."""
    if not is_integer(number) or not least <= number <= most:
        raise InvalidNumber(number)


def check_few_states(box, most):
    """Raise TooMany if the box has more than so many states."""
    if box.states > most:
        raise TooMany("states", most)


def check_few_steps(box, most):
    """Raise TooMany if the box has more than so many steps."""
    if len(box) > most:
        raise TooMany("steps", most)


def check_limited(box):
    """Raise TooMany if the box has more states than one whose sets of states are needed."""
    check_few_states(box, MOST_LIMITED)


def is_like(first, second):
    """Whether both are of the same class; if so, whether both are of equal boxes: one and other."""
    return type(first) is type(second) and first.one == second.one and first.other == second.other
