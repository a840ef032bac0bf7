"""The rules of matchings and fans: what breaks them, the greatest that keeps them, and falls.

A forward matching keeps the rule of remembering fans with sets of one state, a backward one that of guessing
fans. So the kinds of fans stand for the rules of matchings, too. A member of a fan is a tuple (state, set).
"""

from aheadbehind.basics import is_integer, is_list, is_state
from aheadbehind.checks import GUESSING, first_wrong
from aheadbehind.rows import led, ways_back, ways_on


class Rule:
    """What a kind asks of one box and another one.

    For each reachable state of the one, demands are the steps that the other must follow, each with the state
    at its far end; ways are those by which the other follows them. A guessing rule goes against the steps.
    """

    def __init__(self, kind, one, other):
        self.guesses = kind == GUESSING
        self.near_starts = one.starts()
        self.far_starts = other.starts()
        self.demands = demands_of(kind, one)
        self.ways = ways_back(other) if kind == GUESSING else ways_on(other)


def demands_of(kind, one):
    """The dict from the reachable states to the lists of tuples (step, state) that a rule of the kind demands."""
    reachable = {state: True for state in one.reachable()}
    demands = {}
    for state in reachable:
        demands[state] = []
    for step in one.steps():
        if step[0] in reachable:
            near, far = (step[3], step[0]) if kind == GUESSING else (step[0], step[3])
            demands[near].append((step, far))
    return demands


def is_set(states, value):
    """Whether any value is a set of a box with so many states: a sorted tuple of unlike ones, not empty."""
    if not isinstance(value, tuple) or len(value) == 0:
        return False
    if not all([is_state(states, state) for state in value]):
        return False
    return all([first < second for first, second in zip(value, value[1:])])


def are_unlike_sets(other, value):
    """Whether any value is a list of unlike sets of the box."""
    return is_list(value) and first_wrong(value, [is_set(other.states, chosen) for chosen in value]) is None


def lies_within(few, many):
    """Whether all of these few states are among those many."""
    for state in few:
        if state not in many:
            return False
    return True


def small_sets(states, girth):
    """The sorted list of the sets of at most so many of these sorted states."""
    found = [()]
    for state in states:
        found = found + [chosen + (state,) for chosen in found if len(chosen) < girth]
    return sorted(found[1:])


def is_start_set(rule, chosen):
    """Whether a set can stand for a start: if remembered, it has starts alone, if guessed, it has a start."""
    starts = [far for far in chosen if far in rule.far_starts]
    return len(starts) > 0 if rule.guesses else len(starts) == len(chosen)


def is_stray(rule, state, chosen):
    """Whether a set is guessed for a start of the one, but has no start."""
    return rule.guesses and state in rule.near_starts and not is_start_set(rule, chosen)


def linked(rule, near, sign, far):
    """The step between two states by which the rule leads from the near one to the far one."""
    call, answer = sign
    return (far, call, answer, near) if rule.guesses else (near, call, answer, far)


def broken_pairs(rule, pairs):
    """The falls (state, state of the other, why) of those pairs that break the rule with these pairs."""
    held = {pair: True for pair in pairs}
    falls = []
    for state, far in pairs:
        why = unmet_by_state(rule, held, state, far)
        if why is not None or is_stray(rule, state, (far,)):
            falls.append((state, far, why))
    return falls


def unmet_by_state(rule, held, state, far):
    """The first step that is demanded of a pair and leads to no held pair; None if there is none."""
    for step, to in rule.demands[state]:
        if not [end for end in rule.ways.get((far, step[1:3]), []) if (to, end) in held]:
            return step
    return None


def by_state(states, told):
    """The dict from these states to the lists of what the tuples (state, what) tell for them."""
    lists = {}
    for state in states:
        lists[state] = []
    for state, what in told:
        lists[state].append(what)
    return lists


def broken_sets(rule, members):
    """The falls (state, set, why) of those members that break the rule with these members."""
    held = by_state(list(rule.demands), members)
    falls = []
    for state, chosen in members:
        why = unmet_by_set(rule, held, state, chosen)
        if why is not None or is_stray(rule, state, chosen):
            falls.append((state, chosen, why))
    return falls


def unmet_by_set(rule, held, state, chosen):
    """The first step that is demanded of a member and leads to no held set within; None if there is none."""
    for step, to in rule.demands[state]:
        ends = led(rule.ways, chosen, step[1:3])
        if not has_within(held[to], ends):
            return step
    return None


def has_within(sets, many):
    """Whether one of the sets lies within those many states."""
    for chosen in sets:
        if lies_within(chosen, many):
            return True
    return False


def lacks_member(rule, members):
    """Whether a start, or a reachable state, lacks a member that the kind asks for."""
    if rule.guesses:
        told = {state: True for state, _ in members}
        return any([state not in told for state in rule.demands])
    told = {state: True for state, chosen in members if is_start_set(rule, chosen)}
    return any([start not in told for start in rule.near_starts])


def singles(pairs):
    """The members with a set of one state in the place of these pairs."""
    return [(state, (far,)) for state, far in pairs]


def settle(rules, members, broken):
    """The greatest part of the members that keeps all of the rules, and the falls of the others.

    Told broken(rule, members) is one of the functions for pairs and for sets. What breaks the rule is left out
    in rounds, so each fall stands behind those on which it rests.
    """
    falls = []
    found = [fall for rule in rules for fall in broken(rule, members)]
    while found:
        falls.extend(found)
        gone = {fall[:2]: True for fall in found}
        members = [member for member in members if member not in gone]
        found = [fall for rule in rules for fall in broken(rule, members)]
    return members, falls


def settle_sets(kind, one, other, sets):
    """The greatest fan of a kind with only these sets, as sorted members, and the falls of the other ones.

    The first one is None if there is no such fan.
    """
    rule = Rule(kind, one, other)
    members = [(state, chosen) for state in rule.demands for chosen in sets]
    kept, falls = settle([rule], members, broken_sets)
    return (None if lacks_member(rule, kept) else kept), falls


def shows_none(kind, one, other, value, girth):
    """Whether any value is falls that show that there is no fan of a kind of at most this girth."""
    if not is_list(value):
        return False
    rule = Rule(kind, one, other)
    fallen = {}
    told = {}
    for fall in value:
        if not has_form(rule, one, other, fall, girth) or fall in told or not rests(rule, fall, girth, fallen):
            return False
        told[fall] = True
        fallen[fall[:2]] = True
    small = small_sets(list(range(other.states)), girth)
    left = [(state, chosen) for state in rule.demands for chosen in small if (state, chosen) not in fallen]
    return lacks_member(rule, left)


def has_form(rule, one, other, value, girth):
    """Whether any value is a tuple of a reachable state of the one, a small set, and a step of the one or None."""
    if not isinstance(value, tuple) or len(value) != 3:
        return False
    state, chosen, why = value
    if not is_integer(state) or state not in rule.demands:
        return False
    return is_set(other.states, chosen) and len(chosen) <= girth and (why is None or why in one)


def rests(rule, fall, girth, fallen):
    """Whether a fall of the right form follows from those ahead, whose members have fallen."""
    state, chosen, why = fall
    if why is None:
        return is_stray(rule, state, chosen)
    for step, to in rule.demands[state]:
        if step == why:
            ends = small_sets(led(rule.ways, chosen, step[1:3]), girth)
            return all([(to, end) in fallen for end in ends])
    return False
