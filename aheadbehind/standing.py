"""Standing for: whether one box gives only what another one gives, and the rows that tell that it does not."""

from aheadbehind.basics import is_list, is_row
from aheadbehind.checks import check_limited, check_number
from aheadbehind.errors import NotStanding
from aheadbehind.rows import MOST_SIZE, first_row, gives, is_walk, led, path_counts, walk, ways_on


def stands_for(one, other):
    """Whether the one stands for the other."""
    return missing_row(one, other) is None


def missing_row(one, other):
    """The shortest row that the one gives and the other does not, of these the least; None if there is none."""
    check_limited(other)
    one_ways = ways_on(one)
    other_ways = ways_on(other)
    signs = one.signs()

    def moves(node):
        state, states = node
        return [(sign, (to, led(other_ways, states, sign))) for sign in signs for to in one_ways.get((state, sign), [])]

    starts = [(start, tuple(other.starts())) for start in one.starts()]
    return first_row(starts, moves, lambda node: node[1] == ())


def is_missing(one, other, value):
    """Whether any value is a row that the one gives and the other does not."""
    return is_row(value) and gives(one, value) and not gives(other, value)


def missing_walk(one, other):
    """A walk of the one with the missing row; None if there is none."""
    row = missing_row(one, other)
    return None if row is None else walk(one, row)


def is_missing_walk(one, other, value):
    """Whether any value is a walk of the one whose row the other does not give."""
    if not is_list(value) or not all([step in one for step in value]):
        return False
    row = [step[1:3] for step in value]
    return is_walk(one, row, value) and not gives(other, row)


def missing_count(one, other, size):
    """How many rows of so many signs the one gives and the other does not."""
    check_number(size, 0, MOST_SIZE)
    check_limited(one)
    check_limited(other)
    one_ways = ways_on(one)
    other_ways = ways_on(other)
    signs = one.signs()

    def moves(node):
        states, further = node
        ends = [(led(one_ways, states, sign), led(other_ways, further, sign)) for sign in signs]
        return [end for end in ends if end[0]]

    counts = path_counts((tuple(one.starts()), tuple(other.starts())), moves, size)
    return sum([count for (_, further), count in counts.items() if further == ()])


def are_alike(one, other):
    """Whether each of both stands for the other one."""
    return parting_row(one, other) is None


def parting_row(one, other):
    """The shortest row that just one of both gives, of these the least; None if there is none."""
    found = [row for row in [missing_row(one, other), missing_row(other, one)] if row is not None]
    if not found:
        return None
    return min([(len(row), row) for row in found])[1]


def check_standing(one, other):
    """Raise NotStanding with the missing row if the one does not stand for the other."""
    row = missing_row(one, other)
    if row is not None:
        raise NotStanding(row)
