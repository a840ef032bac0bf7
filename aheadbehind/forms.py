"""Forms: one box for all boxes that are alike to every caller."""

from aheadbehind.boxes import made_box
from aheadbehind.checks import check_limited
from aheadbehind.rows import led, ways_on


def form(box):
    """The sure box alike to this one with the fewest states, numbered by their first rows."""
    sure, _ = sets_box(box)
    numbers = merged_numbers(sure)
    steps = [(numbers[state], call, answer, numbers[to]) for state, call, answer, to in sure.steps()]
    return made_box(max(numbers) + 1, [0], steps)


def sets_box(box):
    """The sure box of the sets of states behind the starts by rows, and the list of these sets."""
    check_limited(box)
    ways = ways_on(box)
    signs = box.signs()
    sets = [tuple(box.starts())]
    numbers = {sets[0]: 0}
    steps = []
    at = 0
    # Sets that were met earlier and lesser signs are taken first, so each set is first met by its first row.
    while at < len(sets):
        for sign in signs:
            ends = led(ways, sets[at], sign)
            if ends:
                if ends not in numbers:
                    numbers[ends] = len(sets)
                    sets.append(ends)
                steps.append((at, *sign, numbers[ends]))
        at += 1
    return made_box(len(sets), [0], steps), sets


def merged_numbers(sure):
    """For each state of a sure box its number when states from which the same rows are given are one.

    The states are numbered in the sequence of their first ones.
    """
    moves = [[] for _ in range(sure.states)]
    for state, call, answer, to in sure.steps():
        moves[state].append((call, answer, to))
    numbers = [0 for _ in moves]
    finer = finer_numbers(moves, numbers)
    while finer != numbers:
        numbers = finer
        finer = finer_numbers(moves, numbers)
    return numbers


def finer_numbers(moves, numbers):
    """New numbers of the states: equal only for those of one number whose moves lead to equal numbers."""
    known = {}
    finer = []
    for state, number in enumerate(numbers):
        look = (number, tuple([(call, answer, numbers[to]) for call, answer, to in moves[state]]))
        finer.append(known.setdefault(look, len(known)))
    return finer


def classes(boxes):
    """The lists of the positions of the boxes that are alike, in the sequence of their first ones."""
    found = {}
    for position, box in enumerate(boxes):
        least = form(box)
        found.setdefault((least.states, tuple(least.steps())), []).append(position)
    return list(found.values())
