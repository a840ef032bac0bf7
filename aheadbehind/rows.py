"""Rows: what is behind and ahead of states by them, and the walks and the rows of a box."""

from aheadbehind.basics import is_list
from aheadbehind.checks import check_limited, check_number, check_row, check_some, check_state

MOST_SIZE = 200


def ways_on(box):
    """The dict from the tuples (state, sign) to the sorted states to which steps lead from there."""
    ways = {}
    for state, call, answer, to in box.steps():
        ways.setdefault((state, (call, answer)), []).append(to)
    return ways


def ways_back(box):
    """The dict from the tuples (state, sign) to the sorted states from which steps lead there."""
    ways = {}
    for state, call, answer, to in box.steps():
        ways.setdefault((to, (call, answer)), []).append(state)
    return ways


def led(ways, states, sign):
    """The sorted tuple of the states to which the ways lead from these states by a sign."""
    return tuple(sorted({to for state in states for to in ways.get((state, sign), [])}))


def led_along(ways, states, signs):
    """The sorted list of the states to which the ways lead from these states, sign by sign."""
    for sign in signs:
        states = led(ways, states, sign)
    return sorted(states)


def behind(box, row):
    """The sorted list of the states behind the starts by the row."""
    check_row(row)
    return led_along(ways_on(box), box.starts(), row)


def behind_of(box, some, row):
    """The sorted list of the states behind some states by the row."""
    check_some(box.states, some)
    check_row(row)
    return led_along(ways_on(box), some, row)


def ahead(box, row):
    """The sorted list of the states ahead of all states by the row."""
    check_row(row)
    return led_along(ways_back(box), list(range(box.states)), row[::-1])


def ahead_of(box, some, row):
    """The sorted list of the states ahead of some states by the row."""
    check_some(box.states, some)
    check_row(row)
    return led_along(ways_back(box), some, row[::-1])


def gives(box, row):
    """Whether the box gives the row."""
    return len(behind(box, row)) > 0


def next_signs(box, row):
    """The sorted list of the signs with which the row, longer by one of them, is still given."""
    states = behind(box, row)
    return sorted({step[1:3] for step in box.steps() if step[0] in states})


def walk(box, row):
    """A walk with the signs of the row; None if the box does not give it."""
    for found in walks(box, row):
        return found
    return None


def is_walk(box, row, value):
    """Whether any value is a walk of the box with the signs of the row."""
    check_row(row)
    if not is_list(value) or len(value) != len(row):
        return False
    states = box.starts()
    for sign, step in zip(row, value):
        if step not in box or step[0] not in states or step[1:3] != sign:
            return False
        states = [step[3]]
    return True


def walks(box, row):
    """All walks with the signs of the row, in sorted sequence, each made when it is asked for."""
    check_row(row)
    signs = list(row)
    if not signs:
        yield []
        return
    ways = ways_on(box)
    able = able_states(box, signs)
    taken = []
    waiting = [steps_between(ways, box.starts(), signs[0], able[1])]
    while waiting:
        if waiting[-1]:
            taken.append(waiting[-1].pop())
            if len(taken) == len(signs):
                yield list(taken)
                taken.pop()
            else:
                place = len(taken)
                waiting.append(steps_between(ways, [taken[-1][3]], signs[place], able[place + 1]))
        else:
            waiting.pop()
            if taken:
                taken.pop()


def able_states(box, signs):
    """For each place of the row, and for its end, the states from which its rest can be walked.

    A walk that only goes through these never has to turn back.
    """
    ways = ways_back(box)
    able = [tuple(range(box.states))]
    for sign in signs[::-1]:
        able.append(led(ways, able[-1], sign))
    return able[::-1]


def steps_between(ways, states, sign, ends):
    """The steps with a sign from one of the states to one of the ends, the greatest ones first."""
    call, answer = sign
    steps = [(state, call, answer, to) for state in states for to in ways.get((state, sign), []) if to in ends]
    return sorted(steps, reverse=True)


def walk_count(box, row):
    """How many walks have the signs of the row."""
    check_row(row)
    if len(row) == 0:
        return 1
    ways = ways_on(box)
    counts = {start: 1 for start in box.starts()}
    for sign in row:
        further = {}
        for state, count in counts.items():
            for to in ways.get((state, sign), []):
                further[to] = further.get(to, 0) + count
        counts = further
    return sum(counts.values())


def row_to(box, state):
    """The shortest row to the state, of these the least; None if it is not reachable."""
    check_state(box.states, state)
    ways = ways_on(box)
    signs = box.signs()

    def moves(node):
        return [(sign, to) for sign in signs for to in ways.get((node, sign), [])]

    return first_row(box.starts(), moves, lambda node: node == state)


def first_row(starts, moves, is_end):
    """The shortest row from a start to an end, of these the least; None if there is none.

    Told moves(node) is the list of the tuples (sign, node) of what comes behind a node.
    """
    level = [((), node) for node in starts]
    seen = {node: True for node in starts}
    while level:
        for row, node in level:
            if is_end(node):
                return list(row)
        level = next_level(level, moves, seen)
    return None


def next_level(level, moves, seen):
    """The sorted tuples (row, node) of the unseen nodes just behind those of a level, each by its least row."""
    found = [(row + (sign,), to) for row, node in level for sign, to in moves(node)]
    fresh = []
    for longer, to in sorted(found):
        if to not in seen:
            seen[to] = True
            fresh.append((longer, to))
    return fresh


def rows(box):
    """All rows that the box gives, shorter ones first, then sorted; those of a length are made together."""
    ways = ways_on(box)
    signs = box.signs()
    level = [((), tuple(box.starts()))]
    while level:
        for row, _ in level:
            yield list(row)
        level = longer_rows(level, ways, signs)


def longer_rows(level, ways, signs):
    """For the tuples (row, states) of a length, those of the rows that are longer by a sign, sorted likewise."""
    longer = []
    for row, states in level:
        for sign in signs:
            ends = led(ways, states, sign)
            if ends:
                longer.append((row + (sign,), ends))
    return longer


def row_count(box, size):
    """How many rows of so many signs the box gives."""
    check_number(size, 0, MOST_SIZE)
    check_limited(box)
    ways = ways_on(box)
    signs = box.signs()

    def moves(states):
        return [ends for ends in [led(ways, states, sign) for sign in signs] if ends]

    counts = path_counts(tuple(box.starts()), moves, size)
    return sum(counts.values())


def path_counts(start, moves, size):
    """The dict from nodes to how many paths of so many moves lead there from the start.

    Told moves(node) is the list of the nodes behind a node, a node twice if two moves lead to it.
    """
    counts = {start: 1}
    known = {}
    for _ in range(size):
        further = {}
        for node, count in counts.items():
            if node not in known:
                known[node] = moves(node)
            for to in known[node]:
                further[to] = further.get(to, 0) + count
        counts = further
    return counts
