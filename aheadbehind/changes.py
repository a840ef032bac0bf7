"""Changes: the fewest steps of a box to leave out so that it stands for another one, and trees that show it."""

from aheadbehind.checks import check_few_steps, check_number
from aheadbehind.standing import is_missing_walk, missing_walk

MOST_CHANGED_STEPS = 12
MOST_LEFT_OUT = 3
MOST_DEPTH = 2


def fewest_left_out(one, other):
    """The fewest number of steps of the one without which it stands for the other; None if it is more than 3."""
    found = leave_outs(one, other)
    return len(found[0]) if found else None


def leave_outs(one, other):
    """The sorted list of all leave-outs of the fewest number of steps; empty if it is more than 3."""
    check_few_steps(one, MOST_CHANGED_STEPS)
    for number in range(MOST_LEFT_OUT + 1):
        found = leave_outs_of(one, other, number)
        if found:
            return [list(steps) for steps in found]
    return []


def leave_outs_of(one, other, number):
    """The sorted leave-outs of so many steps as tuples, told that no fewer steps are enough.

    Each leave-out takes a step from each walk that the other cannot follow, so only the steps of one are tried.
    """
    walked = missing_walk(one, other)
    if walked is None:
        return [()]
    if number == 0:
        return []
    found = [
        tuple(sorted([step, *steps])) for step in sorted(set(walked))
        for steps in leave_outs_of(one - step, other, number - 1)
    ]
    return sorted(set(found))


def tree(one, other, depth):
    """A tree of this depth, which shows that more steps must be left out; None if there is none."""
    check_number(depth, 0, MOST_DEPTH)
    check_few_steps(one, MOST_CHANGED_STEPS)
    return grown_tree(one, other, depth)


def grown_tree(one, other, depth):
    """A tree of any depth; None if there is none."""
    walked = missing_walk(one, other)
    if walked is None:
        return None
    branches = {}
    if depth > 0:
        for step in sorted(set(walked)):
            branches[step] = grown_tree(one - step, other, depth - 1)
    return None if None in list(branches.values()) else (walked, branches)


def is_tree(one, other, depth, value):
    """Whether any value is a tree of this depth."""
    check_number(depth, 0, MOST_DEPTH)
    return shows_more(one, other, depth, value)


def shows_more(one, other, depth, value):
    """Whether any value is a tree of any depth."""
    if not isinstance(value, tuple) or len(value) != 2 or not isinstance(value[1], dict):
        return False
    walked, branches = value
    if not is_missing_walk(one, other, walked):
        return False
    if depth == 0:
        return len(branches) == 0
    # A key that only equals a step, with True for 1, is not in the box.
    if not all([step in one for step in branches]) or sorted(branches) != sorted(set(walked)):
        return False
    return all([shows_more(one - step, other, depth - 1, branch) for step, branch in branches.items()])
