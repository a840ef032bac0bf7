"""Forms: one box for all boxes that are alike to every caller."""

from aheadbehind.boxes import made_box
from aheadbehind.checks import check_limited
from aheadbehind.rows import led, ways_on


def form(box):
    """The sure box alike to this one with the fewest states, numbered by their first rows."""
    sure, _ = sets_box(box)
    return merged(sure)


def sets_box(box):
    """The sure box of the sets of states behind the starts by rows, and the list of these sets."""
    check_limited(box)
    ways = ways_on(box)

    def lead(chosen, sign):
        ends = led(ways, chosen, sign)
        return ends if ends else None

    return sure_box(tuple(box.starts()), box.signs(), lead)


def sure_box(start, signs, lead):
    """The sure box of the nodes to which these sorted signs lead from the start, and the list of the nodes.

    Told lead(node, sign) is the node behind another one by a sign, None if there is none. The nodes are numbered
    by their first rows: those that were met earlier and lesser signs are taken first.
    """
    nodes = [start]
    numbers = {start: 0}
    steps = []
    at = 0
    while at < len(nodes):
        for call, answer in signs:
            to = lead(nodes[at], (call, answer))
            if to is not None:
                if to not in numbers:
                    numbers[to] = len(nodes)
                    nodes.append(to)
                steps.append((at, call, answer, numbers[to]))
        at = at + 1
    return made_box(len(nodes), [0], steps), nodes


def merged(sure):
    """The form of a sure box whose states are numbered by their first rows."""
    numbers = merged_numbers(sure)
    steps = [(numbers[state], call, answer, numbers[to]) for state, call, answer, to in sure.steps()]
    return made_box(max(numbers) + 1, [0], steps)


def merged_numbers(sure):
    """For each state of a sure box its number when states from which the same rows are given are one.

    The states are numbered in the sequence of their first ones.
    """
    moves = [[] for _ in range(sure.states)]
    for state, call, answer, to in sure.steps():
        moves[state].append((call, answer, to))
    numbers = [0 for _ in moves]
    finer = finer_numbers(moves, numbers)
    while finer != numbers:
        numbers = finer
        finer = finer_numbers(moves, numbers)
    return numbers


def finer_numbers(moves, numbers):
    """New numbers of the states: equal only for those of one number whose moves lead to equal numbers."""
    known = {}
    finer = []
    for state, number in enumerate(numbers):
        look = (number, tuple([(call, answer, numbers[to]) for call, answer, to in moves[state]]))
        finer.append(known.setdefault(look, len(known)))
    return finer


def classes(boxes):
    """The lists of the positions of the boxes that are alike, in the sequence of their first ones."""
    found = {}
    for position, box in enumerate(boxes):
        least = form(box)
        found.setdefault((least.states, tuple(least.steps())), []).append(position)
    return list(found.values())
