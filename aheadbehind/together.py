"""Boxes that are put together, by turns or in step, and boxes whose calls are named otherwise."""

from aheadbehind.basics import is_name
from aheadbehind.boxes import made_box
from aheadbehind.errors import InvalidNames, SharedCall


def beside(one, other):
    """Both boxes going on by turns: the state (i, j) is i times the states of the other plus j."""
    shared = sorted(set(one.calls()) & set(other.calls()))
    if shared:
        raise SharedCall(shared[0])
    count = other.states
    steps = [
        (state * count + far, call, answer, to * count + far)
        for state, call, answer, to in one.steps() for far in range(count)
    ]
    steps.extend([
        (near * count + state, call, answer, near * count + to)
        for state, call, answer, to in other.steps() for near in range(one.states)
    ])
    return made_box(one.states * count, starts_of_both(one, other), steps)


def in_step(one, other):
    """Both boxes doing each sign together, with states as beside one another."""
    count = other.states
    steps = [
        (near * count + far, call, answer, to * count + end)
        for near, call, answer, to in one.steps() for far, heard, told, end in other.steps()
        if (call, answer) == (heard, told)
    ]
    return made_box(one.states * count, starts_of_both(one, other), steps)


def starts_of_both(one, other):
    """The numbers of the states of two starts."""
    return [start * other.states + further for start in one.starts() for further in other.starts()]


def either(one, other):
    """The one box or the other, whose states come behind those of the one."""
    count = one.states
    starts = [count + start for start in other.starts()]
    steps = [(count + state, call, answer, count + to) for state, call, answer, to in other.steps()]
    return made_box(count + other.states, one.starts() + starts, one.steps() + steps)


def named(box, names):
    """The box with other names for its calls; steps that become equal are one."""
    if not are_names(box, names):
        raise InvalidNames(names)
    steps = [(state, names[call], answer, to) for state, call, answer, to in box.steps()]
    return made_box(box.states, box.starts(), steps)


def are_names(box, value):
    """Whether any value is a dict from just all calls of the box to names."""
    if not isinstance(value, dict) or not all([is_name(call) for call in value]):
        return False
    return sorted(value) == box.calls() and all([is_name(name) for name in value.values()])


def all_in_step(*boxes):
    """The first box in step with the second one, that with the third one, and so on."""
    joined = boxes[0]
    for box in boxes[1:]:
        joined = in_step(joined, box)
    return joined
