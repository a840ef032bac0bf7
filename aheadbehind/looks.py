"""Looks: a box that recalls the last signs, or foresees the next ones."""

from aheadbehind.boxes import made_box
from aheadbehind.checks import REMEMBERING, check_few_steps, check_kind, check_number
from aheadbehind.matchings import backward_falls, forward_falls
from aheadbehind.rows import longer_rows, ways_on

MOST_SIGNS = 2
MOST_LOOK_STEPS = 8


def recalling(box, number):
    """The box recalling so many signs, and the list of the tuples (state, signs) that its states are."""
    check_number(number, 0, MOST_SIGNS)
    check_few_steps(box, MOST_LOOK_STEPS)
    if number == 0:
        return box, plain_looks(box)
    starts = [(start, ()) for start in box.starts()]
    waiting = list(starts)
    found = {start: True for start in starts}
    links = []
    while waiting:
        state, last = waiting.pop()
        for _, call, answer, to in box.steps_from(state):
            longer = (*last, (call, answer))[-number:]
            links.append(((state, last), call, answer, (to, longer)))
            if (to, longer) not in found:
                found[to, longer] = True
                waiting.append((to, longer))
    return look_box(sorted(found), starts, links)


def foreseeing(box, number):
    """The box foreseeing so many signs, and the list of the tuples (state, signs) that its states are."""
    check_number(number, 0, MOST_SIGNS)
    check_few_steps(box, MOST_LOOK_STEPS)
    if number == 0:
        return box, plain_looks(box)
    futures = {state: rows_from(box, state, number) for state in box.reachable()}
    looks = [(state, row) for state in futures for row in futures[state]]
    starts = [(state, row) for state, row in looks if state in box.starts()]
    return look_box(sorted(looks), starts, foreseen_links(box, futures, looks, number))


def foreseen_links(box, futures, looks, number):
    """The steps between these tuples (state, row), told futures being the rows of the reachable states."""
    ways = ways_on(box)
    links = []
    for state, row in looks:
        if row:
            call, answer = row[0]
            for to in ways.get((state, row[0]), []):
                ends = [(to, rest) for rest in futures[to] if goes_on(row, rest, number)]
                links.extend([((state, row), call, answer, end) for end in ends])
    return links


def goes_on(row, rest, number):
    """Whether a foreseen row without its first sign is the rest, or, having so many signs, the rest but one sign."""
    return rest == row[1:] or len(row) == number == len(rest) and rest[:-1] == row[1:]


def rows_from(box, state, number):
    """All rows of at most so many signs that the box gives from a state, as tuples."""
    ways = ways_on(box)
    level = [((), (state,))]
    found = [()]
    for _ in range(number):
        level = longer_rows(level, ways, box.signs())
        found.extend([row for row, _ in level])
    return found


def plain_looks(box):
    """The tuples (state, signs) without signs for all states of a box."""
    return [(state, ()) for state in range(box.states)]


def look_box(looks, starts, links):
    """The box whose states are the numbers of these sorted looks, and the list of the looks."""
    numbers = {look: number for number, look in enumerate(looks)}
    steps = [(numbers[look], call, answer, numbers[to]) for look, call, answer, to in links]
    return made_box(len(looks), [numbers[start] for start in starts], steps), looks


def least_look(one, other, kind):
    """The least number of signs, at most 2, that must be recalled or foreseen for a plain matching; None."""
    check_kind(kind)
    for number in range(MOST_SIGNS + 1):
        if kind == REMEMBERING:
            falls = backward_falls(recalling(one, number)[0], other)
        else:
            falls = forward_falls(foreseeing(one, number)[0], other)
        if falls is None:
            return number
    return None
