"""Middles: boxes between two others, with a matching on each side."""

from aheadbehind.boxes import Box, made_box
from aheadbehind.checks import GUESSING, REMEMBERING, check_kind
from aheadbehind.errors import InvalidFan, InvalidMiddle
from aheadbehind.fans import Guessing, Remembering
from aheadbehind.matchings import is_matching
from aheadbehind.rows import led
from aheadbehind.rules import Rule, by_state, is_start_set, lies_within, linked


def middle(fan):
    """The middle of a fan of a kind: a tuple of the box between, the pairs and the further pairs."""
    if not isinstance(fan, Remembering) and not isinstance(fan, Guessing):
        raise InvalidFan(fan)
    members = fan.members()
    numbers = {member: number for number, member in enumerate(members)}
    rule = Rule(fan.KIND, fan.one, fan.other)
    starts = [
        numbers[state, chosen] for state, chosen in members
        if state in rule.near_starts and is_start_set(rule, chosen)
    ]
    box = made_box(len(members), starts, middle_steps(rule, fan.sets(), numbers))
    pairs = [(state, numbers[state, chosen]) for state, chosen in members]
    further = [(number, far) for number in box.reachable() for far in members[number][1]]
    return box, pairs, further


def middle_steps(rule, sets, numbers):
    """The steps of the middle of the fan with these sets, between the numbers of the tuples (state, set)."""
    steps = []
    for state, chosen in numbers:
        for step, to in rule.demands[state]:
            ends = led(rule.ways, chosen, step[1:3])
            for further in sets[to]:
                if lies_within(further, ends):
                    steps.append(linked(rule, numbers[state, chosen], step[1:3], numbers[to, further]))
    return steps


def is_middle(one, other, kind, value):
    """Whether any value is a middle of the kind."""
    check_kind(kind)
    if not isinstance(value, tuple) or len(value) != 3 or not isinstance(value[0], Box):
        return False
    box, pairs, further = value
    second = REMEMBERING if kind == GUESSING else GUESSING
    return is_matching(kind, one, box, pairs) and is_matching(second, box, other, further)


def fan_of(one, other, kind, value):
    """The fan of the kind that tells for a state the sets of partners of its partners in the box between."""
    if not is_middle(one, other, kind, value):
        raise InvalidMiddle(value)
    box, pairs, further = value
    partners = by_state(box.reachable(), sorted(further))
    members = {(state, tuple(partners[between])) for state, between in pairs if between in partners}
    sets = by_state(one.reachable(), sorted(members))
    return Guessing(one, other, sets) if kind == GUESSING else Remembering(one, other, sets)
