"""Plain reckonings of muffled boxes, boxes put together, rooms, leave-outs and trees, by the words of the document.

A muffled box is told by its parts, a box that is made by a tuple (states, starts, steps). Of the package only Box
and what makes boxes without limits are used.
"""

import itertools
import random

from aheadbehind.boxes import made_box
from tests import plain

NO = "no"
EVER = "ever"


def some_parts(count, seed, most_states, most_steps, most_hidden, signs=(("a", "x"), ("b", "x"), ("b", "y"))):
    """So many tuples (states, starts, steps, hidden), always the same ones for the same numbers."""
    chance = random.Random(seed)
    found = []
    for _ in range(count):
        states = chance.randint(1, most_states)
        starts = sorted(chance.sample(range(states), min(states, chance.choice([1, 1, 2]))))
        steps = plain.all_steps(states, signs)
        steps = chance.sample(steps, min(len(steps), chance.randint(0, most_steps)))
        links = list(itertools.product(range(states), repeat=2))
        hidden = chance.sample(links, min(len(links), chance.randint(0, most_hidden)))
        found.append((states, starts, sorted(steps), sorted(hidden)))
    return found


def some_pairs_of_parts(count, seed, most_states, most_steps, most_hidden):
    """So many pairs of such tuples: any two; two that have most in common."""
    ones = some_parts(count, seed, most_states, most_steps, most_hidden)
    others = some_parts(count, seed + 1, most_states, most_steps, most_hidden)
    chance = random.Random(seed)
    pairs = []
    for number, (one, other) in enumerate(zip(ones, others)):
        if number % 3:
            states, starts, steps, hidden = one
            more = chance.sample(plain.all_steps(states, plain.SIGNS), 1) if number % 3 == 1 else []
            other = (states, starts, sorted(set(chance.sample(steps, max(0, len(steps) - number % 2)) + more)),
                     chance.sample(hidden, max(0, len(hidden) - chance.randint(0, 1))))
        pairs.append((one, other))
    return pairs


def box_of(told):
    """The Box of a tuple (states, starts, steps)."""
    return made_box(*told)


def moves(states, hidden, state):
    """The states to which a list of hidden steps, perhaps empty, leads from this one."""
    found = {state}
    for _ in range(states):
        found |= {to for start, to in hidden if start in found}
    return sorted(found)


def moves_back(states, hidden, state):
    """Whether one or more hidden steps lead from the state to itself."""
    return any(start == state and state in moves(states, hidden, to) for start, to in hidden)


def endless(parts):
    """The endless states."""
    states, _, _, hidden = parts
    return [state for state in range(states)
            if any(moves_back(states, hidden, to) for to in moves(states, hidden, state))]


def refuses(parts, state, call):
    """Whether the state is at rest and has no step with the call."""
    _, _, steps, hidden = parts
    return all(start != state for start, _ in hidden) and all(step[:2] != (state, call) for step in steps)


def plain_made(parts):
    """The muffled box made plain."""
    states, starts, steps, hidden = parts
    inside = range(states)
    led = sorted({to for start in starts for to in moves(states, hidden, start)})
    made = sorted(
        (start, *sign, end) for start in inside for end in inside for sign in sorted({step[1:3] for step in steps})
        if any((near, *sign, far) in steps and near in moves(states, hidden, start)
               and end in moves(states, hidden, far) for near in inside for far in inside)
    )
    return states, led, made


def made(parts, reading, calls):
    """The muffled box made as a reading tells."""
    states, starts, steps = plain_made(parts)
    more = set(steps)
    if reading in ("firm", "wary"):
        more |= {(state, call, NO, to) for call in calls for state in range(states) for to in range(states)
                 if to in moves(states, parts[3], state) and refuses(parts, to, call)}
    if reading in ("awake", "wary"):
        more |= {(state, call, EVER, states) for call in calls for state in endless(parts)}
        states += 1
    return states, starts, sorted(more)


def follow(box, some, sign):
    """The states behind some states by a sign, as a frozenset."""
    return frozenset(step[3] for step in box.steps() if step[0] in some and step[1:3] == sign)


def stands(one, other):
    """Whether the other gives all that the one gives, by all states and sets that a row leads to."""
    waiting = [(start, frozenset(other.starts())) for start in one.starts()]
    seen = set(waiting)
    while waiting:
        state, some = waiting.pop()
        for step in one.steps():
            if step[0] == state:
                ends = follow(other, some, step[1:3])
                if not ends:
                    return False
                if (step[3], ends) not in seen:
                    seen.add((step[3], ends))
                    waiting.append((step[3], ends))
    return True


def beside(one, other):
    """Both boxes going on by turns."""
    places = list(itertools.product(range(one.states), range(other.states)))
    steps = [(i * other.states + j, *sign, p * other.states + q) for i, j in places for p, q in places
             for sign in sorted({step[1:3] for step in one.steps() + other.steps()})
             if ((i, *sign, p) in one.steps() and j == q) or ((j, *sign, q) in other.steps() and i == p)]
    return len(places), starts_of(one, other), sorted(steps)


def in_step(one, other):
    """Both boxes doing each sign together."""
    places = list(itertools.product(range(one.states), range(other.states)))
    steps = [(i * other.states + j, *sign, p * other.states + q) for i, j in places for p, q in places
             for sign in sorted({step[1:3] for step in one.steps()})
             if (i, *sign, p) in one.steps() and (j, *sign, q) in other.steps()]
    return len(places), starts_of(one, other), sorted(steps)


def starts_of(one, other):
    return sorted(i * other.states + j for i in one.starts() for j in other.starts())


def is_roomy(helper, whole, row):
    """Whether the whole gives each beginning of the row that the helper gives."""
    return all(plain.gives(whole, row[:size]) for size in range(len(row) + 1) if plain.gives(helper, row[:size]))


def left_out(one, steps):
    """The one without these steps."""
    return made_box(one.states, one.starts(), [step for step in one.steps() if step not in steps])


def leave_outs(one, other, most):
    """The fewest number of steps to leave out, at most so many, and the sorted list of all leave-outs of it."""
    for size in range(most + 1):
        found = [list(steps) for steps in itertools.combinations(one.steps(), size)
                 if stands(left_out(one, steps), other)]
        if found:
            return size, sorted(found)
    return None, []


def is_walk(one, steps):
    """Whether this list of tuples is a walk of the one."""
    ends = [None] + [step[3] for step in steps if step in one.steps()]
    return all(step in one.steps() for step in steps) and all(
        step[0] in one.starts() if place == 0 else step[0] == ends[place] for place, step in enumerate(steps))


def is_tree(one, other, depth, value):
    """Whether a tuple of a list of tuples and a dict with tuples as keys is a tree of this depth."""
    steps, branches = value
    if not is_walk(one, steps) or plain.gives(other, [step[1:3] for step in steps]):
        return False
    if depth == 0:
        return branches == {}
    return set(branches) == set(steps) and all(
        is_tree(left_out(one, [step]), other, depth - 1, branches[step]) for step in branches)
