"""Plain reckonings of fans, middles, families and looks, by the words of the document, over small boxes.

A fan is a dict from the reachable states of the one to lists of sets. Of the package only Box is used.
"""

import itertools

from aheadbehind.boxes import Box
from tests import plain

KINDS = ("remembering", "guessing")


def all_sets(states, girth):
    """All sets of at most so many of so many states, sorted."""
    sizes = range(1, min(girth, states) + 1)
    return sorted(chosen for size in sizes for chosen in itertools.combinations(range(states), size))


def follow(box, some, sign):
    """The states to which a step with this sign leads from one of some states."""
    return {end for start, end in plain.like_steps(box, sign) if start in some}


def trace(box, some, sign):
    """The states with a step with this sign to one of some states."""
    return {start for start, end in plain.like_steps(box, sign) if end in some}


def members(fan):
    """The sorted tuples (state, set) of a fan."""
    return sorted((state, chosen) for state in fan for chosen in fan[state])


def dict_of(one, some):
    """The fan with these tuples (state, set)."""
    return {state: sorted(chosen for near, chosen in some if near == state) for state in plain.reached(one)}


def within(sets, many):
    """Whether some of the sets lies within those states."""
    return any(set(chosen) <= set(many) for chosen in sets)


def breaks(kind, one, other, fan):
    """The sorted tuples (state, set) that break (R2), or (G1) or (G3)."""
    inside = plain.reached(one)
    broken = []
    for state, chosen in members(fan):
        if kind == "remembering":
            wrong = any(step[0] == state and not within(fan[step[3]], follow(other, chosen, step[1:3])) for step in one)
        else:
            wrong = any(step[3] == state and step[0] in inside
                        and not within(fan[step[0]], trace(other, chosen, step[1:3])) for step in one)
            wrong = wrong or (state in one.starts() and not set(chosen) & set(other.starts()))
        if wrong:
            broken.append((state, chosen))
    return broken


def lacks(kind, one, other, fan):
    """Whether a start breaks (R1), or a state (G2)."""
    if kind == "remembering":
        return not all(within(fan[start], other.starts()) for start in one.starts())
    return not all(fan[state] for state in plain.reached(one))


def is_fan(kind, one, other, fan):
    return not breaks(kind, one, other, fan) and not lacks(kind, one, other, fan)


def all_fans(one, sets):
    """All dicts with only these sets."""
    every = [(state, chosen) for state in plain.reached(one) for chosen in sets]
    return [dict_of(one, some) for some in plain.parts_of(every)]


def greatest(kind, one, other, sets):
    """The greatest fan with only these sets; None if there is none."""
    fan = {state: list(sets) for state in plain.reached(one)}
    while breaks(kind, one, other, fan):
        broken = breaks(kind, one, other, fan)
        fan = dict_of(one, [member for member in members(fan) if member not in broken])
    return None if lacks(kind, one, other, fan) else fan


def built(kind, one, other, most):
    """The built fan, by the rows of at most so many signs."""
    signs = sorted({step[1:3] for step in one})
    found = set()
    for size in range(most + 1):
        for row in itertools.product(signs, repeat=size):
            for state in plain.reached(one):
                if kind == "remembering":
                    ends, chosen = set(one.starts()), set(other.starts())
                    for sign in row:
                        ends, chosen = follow(one, ends, sign), follow(other, chosen, sign)
                    if state in ends:
                        found.add((state, tuple(sorted(chosen))))
                else:
                    starts, chosen = set(range(one.states)), set(range(other.states))
                    for sign in row[::-1]:
                        starts, chosen = trace(one, starts, sign), trace(other, chosen, sign)
                    if state in starts:
                        found.add((state, tuple(sorted(chosen))))
    return dict_of(one, found)


def thin(fan):
    """The fan without the sets that have another one of the same state within them."""
    return {state: [chosen for chosen in fan[state] if not any(set(less) < set(chosen) for less in fan[state])]
            for state in fan}


def are_falls(kind, one, other, falls, girth):
    """Whether the falls show that there is no fan of a kind of at most this girth."""
    inside, small, fallen = plain.reached(one), all_sets(other.states, girth), set()
    for number, (state, chosen, why) in enumerate(falls):
        if (state, chosen, why) in falls[:number] or state not in inside or chosen not in small:
            return False
        if kind == "remembering":
            if why not in one.steps() or why[0] != state:
                return False
            to, ends = why[3], follow(other, chosen, why[1:3])
        elif why is None:
            if state not in one.starts() or set(chosen) & set(other.starts()):
                return False
            to, ends = None, ()
        else:
            if why not in one.steps() or why[3] != state or why[0] not in inside:
                return False
            to, ends = why[0], trace(other, chosen, why[1:3])
        if not all((to, less) in fallen for less in small if set(less) <= set(ends)):
            return False
        fallen.add((state, chosen))
    if kind == "remembering":
        first = [chosen for chosen in small if set(chosen) <= set(other.starts())]
        return any(all((start, chosen) in fallen for chosen in first) for start in one.starts())
    return any(all((state, chosen) in fallen for chosen in small) for state in inside)


def middle(kind, one, other, fan):
    """The middle of a fan of a kind."""
    places = members(fan)
    steps = [
        (number, *step[1:3], further) for number, (state, chosen) in enumerate(places)
        for further, (to, sent) in enumerate(places) for step in one
        if (step[0], step[3]) == (state, to)
        and (set(sent) <= follow(other, chosen, step[1:3]) if kind == "remembering"
             else set(chosen) <= trace(other, sent, step[1:3]))
    ]
    starts = [number for number, (state, chosen) in enumerate(places) if state in one.starts()
              and (kind == "guessing" or set(chosen) <= set(other.starts()))]
    pairs = [(state, number) for number, (state, _) in enumerate(places)]
    return len(places), starts, sorted(set(steps)), pairs, places


def recalling(box, number):
    """The tuples (state, signs) and the parts of the box recalling so many signs, at least one."""
    starts = [(start, ()) for start in box.starts()]
    places, links = list(starts), []
    for state, last in places:
        for step in box:
            if step[0] == state:
                longer = last + (step[1:3],)
                to = (step[3], longer[1:] if len(longer) > number else longer)
                links.append(((state, last), step[1:3], to))
                if to not in places:
                    places.append(to)
    return places, starts, links


def foreseeing(box, number):
    """The tuples (state, signs) and the parts of the box foreseeing so many signs, at least one."""
    signs = sorted({step[1:3] for step in box})
    inside = plain.reached(box)
    rows = [row for size in range(number + 1) for row in itertools.product(signs, repeat=size)]
    places = [(state, row) for state in inside for row in rows if plain.behind(box, [state], row)]
    links = []
    for state, row in places:
        for step in box:
            if row and step[0] == state and step[1:3] == row[0]:
                ends = [row[1:]] + ([row[1:] + (sign,) for sign in signs] if len(row) == number else [])
                links.extend(((state, row), row[0], (step[3], end)) for end in ends if (step[3], end) in places)
    return places, [place for place in places if place[0] in box.starts()], links


def told(places, starts, links):
    """A box with any number of states as a tuple (states, starts, steps, places), numbered in sorted sequence."""
    places = sorted(places)
    steps = sorted({(places.index(place), *sign, places.index(to)) for place, sign, to in links})
    return len(places), sorted(places.index(start) for start in starts), steps, places


def small_boxes(states, signs):
    """All boxes with so many states and some of all steps with these signs."""
    return [Box(states, starts, steps) for starts in plain.parts_of(list(range(states)))[1:]
            for steps in plain.parts_of(plain.all_steps(states, signs))]
