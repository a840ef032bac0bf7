"""Plain reckonings of the definitions of the document, by the words, over small boxes.

They ask the boxes for their states, starts and steps alone, and use nothing else of the package.
"""

import itertools
import random

from aheadbehind.boxes import Box

SIGNS = [("a", "x"), ("a", "y"), ("b", "x")]


def some_boxes(count, seed, most_states, most_steps, signs):
    """So many boxes over these signs, always the same ones for the same numbers."""
    chance = random.Random(seed)
    boxes = []
    for _ in range(count):
        states = chance.randint(1, most_states)
        starts = chance.sample(range(states), min(states, chance.choice([1, 1, 2])))
        steps = all_steps(states, signs)
        boxes.append(Box(states, starts, chance.sample(steps, min(len(steps), chance.randint(0, most_steps)))))
    return boxes


def all_steps(states, signs):
    """All steps between so many states with these signs."""
    return [(state, *sign, to) for state in range(states) for sign in signs for to in range(states)]


def some_pairs(count, seed, most_states, most_steps, signs):
    """So many pairs of boxes: any two; two with most steps in common; a box and one with a step more for the other."""
    ones = some_boxes(count, seed, most_states, most_steps, signs)
    others = some_boxes(count, seed + 1, most_states, most_steps, signs)
    chance = random.Random(seed)
    pairs = []
    for number, (one, other) in enumerate(zip(ones, others)):
        steps = all_steps(one.states, signs)
        more = sorted(set(one.steps() + chance.sample(steps, 1)))
        if number % 3 == 1:
            other = Box(one.states, one.starts(), chance.sample(more, max(0, len(more) - 1)))
        if number % 3 == 2:
            order = chance.sample(range(one.states), one.states)
            other = Box(one.states, one.starts(), more).numbered(order)
        pairs.append((one, other))
    return pairs


def walked(box, starts, row):
    """All walks from one of the starts with just these signs, in sequence."""
    walks = [()]
    for sign in row:
        walks = [
            walk + (step,) for walk in walks for step in box.steps()
            if step[1:3] == sign and (step[0] == walk[-1][3] if walk else step[0] in starts)
        ]
    return walks


def behind(box, starts, row):
    """The states behind the starts by the row."""
    ends = list(starts) if not row else [walk[-1][3] for walk in walked(box, starts, row)]
    return sorted(set(ends))


def ahead(box, some, row):
    """The states ahead of some states by the row."""
    return [state for state in range(box.states) if set(behind(box, [state], row)) & set(some)]


def gives(box, row):
    """Whether a walk from a start has just these signs."""
    return len(walked(box, box.starts(), row)) > 0


def rows_of(box, size):
    """All rows of so many signs that the box gives, sorted, as tuples."""
    signs = sorted({step[1:3] for step in box.steps()})
    rows = [()]
    for _ in range(size):
        rows = [row + (sign,) for row in rows for sign in signs if gives(box, row + (sign,))]
    return rows


def rows_up_to(box, most):
    """All rows of at most so many signs that the box gives, shorter ones first, then sorted."""
    return [row for size in range(most + 1) for row in rows_of(box, size)]


def first_missing(one, other, most):
    """The first row of at most so many signs that the one gives and the other does not."""
    for row in rows_up_to(one, most):
        if not gives(other, row):
            return list(row)
    return None


def reached(box):
    """The reachable states."""
    found = set(box.starts())
    for _ in range(box.states):
        found |= {step[3] for step in box.steps() if step[0] in found}
    return sorted(found)


def like_steps(other, sign):
    """The tuples (from, to) of the steps with a sign."""
    return [(step[0], step[3]) for step in other.steps() if step[1:3] == sign]


def all_pairs(one, other):
    """All tuples of a reachable state of the one and a state of the other."""
    return [(a, b) for a in reached(one) for b in range(other.states)]


def breaks_forward(one, other, pairs):
    """The sorted pairs that break the forward rule with these pairs."""
    return [
        (a, b) for a, b in sorted(pairs)
        if any(step[0] == a
               and not any(start == b and (step[3], d) in pairs for start, d in like_steps(other, step[1:3]))
               for step in one.steps())
    ]


def lacks_forward(one, other, pairs):
    """Whether a start has no pair with a start."""
    return not all(any((start, far) in pairs for far in other.starts()) for start in one.starts())


def breaks_backward(one, other, pairs):
    """The sorted pairs that break the backward rule with these pairs."""
    inside = reached(one)
    return [
        (c, d) for c, d in sorted(pairs)
        if (c in one.starts() and d not in other.starts())
        or any(step[3] == c and step[0] in inside
               and not any(end == d and (step[0], b) in pairs for b, end in like_steps(other, step[1:3]))
               for step in one.steps())
    ]


def lacks_backward(one, other, pairs):
    """Whether a reachable state has no pair."""
    return not set(reached(one)) <= {a for a, _ in pairs}


def is_forward(one, other, pairs):
    return not breaks_forward(one, other, pairs) and not lacks_forward(one, other, pairs)


def is_backward(one, other, pairs):
    return not breaks_backward(one, other, pairs) and not lacks_backward(one, other, pairs)


def greatest_pairs(one, other, breaks):
    """The greatest set of pairs that none of them breaks, told one of the functions above; sorted."""
    pairs = all_pairs(one, other)
    while breaks(one, other, pairs):
        broken = breaks(one, other, pairs)
        pairs = [pair for pair in pairs if pair not in broken]
    return pairs


def has_forward(one, other):
    """Whether there is a forward matching."""
    return not lacks_forward(one, other, greatest_pairs(one, other, breaks_forward))


def has_backward(one, other):
    """Whether there is a backward matching."""
    return not lacks_backward(one, other, greatest_pairs(one, other, breaks_backward))


def parts_of(values):
    """All lists of some of the values, in their sequence."""
    return [list(part) for size in range(len(values) + 1) for part in itertools.combinations(values, size)]


def are_forward_falls(one, other, falls):
    """Whether the falls show that there is no forward matching."""
    fallen = set()
    for number, (a, b, why) in enumerate(falls):
        if (a, b, why) in falls[:number] or a not in reached(one) or b not in range(other.states):
            return False
        if why not in one.steps() or why[0] != a:
            return False
        if not all((why[3], d) in fallen for start, d in like_steps(other, why[1:3]) if start == b):
            return False
        fallen.add((a, b))
    return any(all((start, far) in fallen for far in other.starts()) for start in one.starts())


def are_backward_falls(one, other, falls):
    """Whether the falls show that there is no backward matching."""
    fallen = set()
    for number, (a, b, why) in enumerate(falls):
        if (a, b, why) in falls[:number] or a not in reached(one) or b not in range(other.states):
            return False
        if why is None:
            if a not in one.starts() or b in other.starts():
                return False
        elif why not in one.steps() or why[3] != a or why[0] not in reached(one):
            return False
        elif not all((why[0], d) in fallen for d, end in like_steps(other, why[1:3]) if end == b):
            return False
        fallen.add((a, b))
    return any(all((a, b) in fallen for b in range(other.states)) for a in reached(one))
