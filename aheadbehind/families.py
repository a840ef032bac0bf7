"""Families: lists of sets of a box, and whether a fan needs no others."""

from aheadbehind.boxes import made_box
from aheadbehind.checks import check_few_states, check_kind
from aheadbehind.errors import InvalidFamily
from aheadbehind.rows import led
from aheadbehind.rules import Rule, are_unlike_sets, is_start_set, lies_within, linked, settle_sets, small_sets
from aheadbehind.standing import check_standing

MOST_FAMILY_STATES = 4
MOST_SETS = 3


def serves(one, other, kind, value):
    """Whether any value is a family such that there is a fan of the kind all of whose sets are in it."""
    check_kind(kind)
    return are_unlike_sets(other, value) and is_enough(one, other, kind, value)


def is_enough(one, other, kind, family):
    """Whether there is a fan of the kind all of whose sets are in the family."""
    kept, _ = settle_sets(kind, one, other, family)
    return kept is not None


def family_box(other, kind, family):
    """The box whose states are the sets of the family, numbered in their sorted sequence."""
    check_kind(kind)
    rule = Rule(kind, other, other)
    if not are_unlike_sets(other, family) or not [chosen for chosen in family if is_start_set(rule, chosen)]:
        raise InvalidFamily(family)
    sets = sorted(family)
    starts = [number for number, chosen in enumerate(sets) if is_start_set(rule, chosen)]
    steps = []
    for sign in other.signs():
        for number, chosen in enumerate(sets):
            ends = led(rule.ways, chosen, sign)
            reached = [place for place, further in enumerate(sets) if lies_within(further, ends)]
            steps.extend([linked(rule, number, sign, place) for place in reached])
    return made_box(len(sets), starts, steps)


def least_size(one, other, kind):
    """The least number of sets of a family that serves; None if it is more than 3."""
    families = least_families(one, other, kind)
    return len(families[0]) if families else None


def least_families(one, other, kind):
    """The sorted list of all families of the least number of sets that serve; empty if it is more than 3."""
    check_kind(kind)
    check_few_states(other, MOST_FAMILY_STATES)
    check_standing(one, other)
    sets = small_sets(list(range(other.states)), other.states)
    families = [[]]
    for _ in range(MOST_SETS):
        families = longer_families(families, sets)
        found = [family for family in families if is_enough(one, other, kind, family)]
        if found:
            return found
    return []


def longer_families(families, sets):
    """The sorted families with one of the sets more, a greater one than all others."""
    return [[*family, chosen] for family in families for chosen in sets if not family or family[-1] < chosen]


def family_middle(one, other, kind, family):
    """The middle of the kind that has the box of a family that serves between both boxes."""
    box = family_box(other, kind, family)
    sets = sorted(family)
    members, _ = settle_sets(kind, one, other, sets)
    pairs = [(state, sets.index(chosen)) for state, chosen in members]
    further = [(number, far) for number in box.reachable() for far in sets[number]]
    return box, pairs, further
