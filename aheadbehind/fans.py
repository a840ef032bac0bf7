"""Fans: for each reachable state of one box some sets of states of another one, remembered or guessed."""

from aheadbehind.basics import is_count, is_integer
from aheadbehind.checks import check_few_states, check_number, is_like
from aheadbehind.errors import BrokenFan, InvalidFan, InvalidMatching, InvalidNumber, InvalidState, NoFan
from aheadbehind.matchings import Backward, Forward
from aheadbehind.rows import led
from aheadbehind.rules import (
    Rule, are_unlike_sets, broken_sets, by_state, is_set, lacks_member, lies_within, settle_sets, shows_none,
    small_sets,
)
from aheadbehind.standing import check_standing

MOST_FAN_STATES = 5


class Fan:
    """For each reachable state of one box a list of sets of another one. It never changes."""

    def __init__(self, one, other, sets):
        if not are_sets(one, other, sets):
            raise InvalidFan(sets)
        self._one = one
        self._other = other
        self._sets = {state: sorted(sets[state]) for state in one.reachable()}

    @property
    def one(self):
        """The box of the states."""
        return self._one

    @property
    def other(self):
        """The box of the sets."""
        return self._other

    @property
    def girth(self):
        """The greatest number of states in a set, 0 without sets."""
        return max([len(chosen) for chosen in self.unlike()], default=0)

    def sets(self):
        """The dict from the states to the sorted lists of their sets."""
        return {state: list(chosen) for state, chosen in self._sets.items()}

    def unlike(self):
        """The sorted list of all unlike sets."""
        return sorted({chosen for _, chosen in self.members()})

    def members(self):
        """The sorted list of the tuples (state, set)."""
        return [(state, chosen) for state in self._sets for chosen in self._sets[state]]

    def is_part_of(self, further):
        """Whether each tuple (state, set) is one of the further fan, too."""
        check_like(self, further)
        held = {member: True for member in further.members()}
        return all([member in held for member in self.members()])

    def with_sets(self, sets):
        """A fan of the same class and the same boxes."""
        return Fan(self._one, self._other, sets)

    def __getitem__(self, at):
        if not is_integer(at) or at not in self._sets:
            raise InvalidState(at)
        return list(self._sets[at])

    def __iter__(self):
        raise TypeError("a fan is not iterated over")

    def __len__(self):
        return len(self.members())

    def __contains__(self, x):
        if not isinstance(x, tuple) or len(x) != 2 or not is_integer(x[0]) or x[0] not in self._sets:
            return False
        return is_set(self._other.states, x[1]) and x[1] in self._sets[x[0]]

    def __eq__(self, other):
        return isinstance(other, Fan) and is_like(self, other) and self._sets == other._sets

    def __or__(self, other):
        check_like(self, other)
        return self.with_sets(by_state(self._one.reachable(), sorted(set(self.members() + other.members()))))

    def __repr__(self):
        return f"{self.__class__.__name__}({self._sets})"


class Remembering(Fan):
    """A fan whose sets are remembered behind what was heard."""

    KIND = "remembering"

    def __init__(self, one, other, sets):
        Fan.__init__(self, one, other, sets)
        check_kept(Remembering.KIND, self)

    @classmethod
    def built(cls, one, other):
        """The fan of all sets behind the starts of the other."""
        return cls(one, other, built_sets(cls.KIND, one, other))

    @classmethod
    def thin(cls, one, other):
        """The built fan without the sets that have another one within them."""
        return cls(one, other, thin_sets(cls.KIND, one, other))

    @classmethod
    def of_singles(cls, matching):
        """The fan with a set of one state for each pair of a forward matching."""
        if not isinstance(matching, Forward):
            raise InvalidMatching(matching)
        return cls(matching.one, matching.other, sets_of_singles(matching))

    @classmethod
    def of_partners(cls, matching):
        """The fan with one set for each state, its partners in a backward matching."""
        if not isinstance(matching, Backward):
            raise InvalidMatching(matching)
        return cls(matching.one, matching.other, sets_of_partners(matching))

    @classmethod
    def greatest(cls, one, other, *, girth):
        """The greatest fan of at most this girth."""
        return cls(one, other, greatest_sets(cls.KIND, one, other, girth))

    @classmethod
    def least_girth(cls, one, other):
        """The least girth of a fan."""
        return least_girth_of(cls.KIND, one, other)

    @classmethod
    def falls(cls, one, other, *, girth):
        """Falls that show that there is no fan of at most this girth; None if there is one."""
        return set_falls(cls.KIND, one, other, girth)

    @classmethod
    def are_falls(cls, one, other, value, *, girth):
        """Whether any value is falls that show that there is no fan of at most this girth."""
        return are_set_falls(cls.KIND, one, other, value, girth)

    def with_sets(self, sets):
        """A fan of the same class and the same boxes."""
        return Remembering(self._one, self._other, sets)


class Guessing(Fan):
    """A fan whose sets are guessed ahead of what will be heard."""

    KIND = "guessing"

    def __init__(self, one, other, sets):
        Fan.__init__(self, one, other, sets)
        check_kept(Guessing.KIND, self)

    @classmethod
    def built(cls, one, other):
        """The fan of all sets ahead of all states of the other."""
        return cls(one, other, built_sets(cls.KIND, one, other))

    @classmethod
    def thin(cls, one, other):
        """The built fan without the sets that have another one within them."""
        return cls(one, other, thin_sets(cls.KIND, one, other))

    @classmethod
    def of_singles(cls, matching):
        """The fan with a set of one state for each pair of a backward matching."""
        if not isinstance(matching, Backward):
            raise InvalidMatching(matching)
        return cls(matching.one, matching.other, sets_of_singles(matching))

    @classmethod
    def of_partners(cls, matching):
        """The fan with one set for each state, its partners in a forward matching."""
        if not isinstance(matching, Forward):
            raise InvalidMatching(matching)
        return cls(matching.one, matching.other, sets_of_partners(matching))

    @classmethod
    def greatest(cls, one, other, *, girth):
        """The greatest fan of at most this girth."""
        return cls(one, other, greatest_sets(cls.KIND, one, other, girth))

    @classmethod
    def least_girth(cls, one, other):
        """The least girth of a fan."""
        return least_girth_of(cls.KIND, one, other)

    @classmethod
    def falls(cls, one, other, *, girth):
        """Falls that show that there is no fan of at most this girth; None if there is one."""
        return set_falls(cls.KIND, one, other, girth)

    @classmethod
    def are_falls(cls, one, other, value, *, girth):
        """Whether any value is falls that show that there is no fan of at most this girth."""
        return are_set_falls(cls.KIND, one, other, value, girth)

    def with_sets(self, sets):
        """A fan of the same class and the same boxes."""
        return Guessing(self._one, self._other, sets)


def are_sets(one, other, value):
    """Whether any value is a dict from just the reachable states of the one to lists of unlike sets of the other."""
    if not isinstance(value, dict) or not all([is_integer(state) for state in value]):
        return False
    if sorted(value) != one.reachable():
        return False
    return all([are_unlike_sets(other, sets) for sets in value.values()])


def is_fan(kind, one, other, value):
    """Whether any value is the dict of the sets of a fan of the kind."""
    if not are_sets(one, other, value):
        return False
    rule = Rule(kind, one, other)
    members = [(state, chosen) for state in value for chosen in value[state]]
    return not broken_sets(rule, members) and not lacks_member(rule, members)


def check_like(fan, further):
    """Raise InvalidFan unless the further fan is of the same class with equal boxes."""
    if not is_like(fan, further):
        raise InvalidFan(further)


def check_kept(kind, fan):
    """Raise BrokenFan unless the sets keep the rule of the kind, and none is lacking."""
    rule = Rule(kind, fan.one, fan.other)
    broken = broken_sets(rule, fan.members())
    if broken:
        raise BrokenFan(broken[0][:2])
    if lacks_member(rule, fan.members()):
        raise BrokenFan(None)


def built_sets(kind, one, other):
    """The dict of the sets of the built fan of a kind."""
    check_standing(one, other)
    rule = Rule(kind, one, other)
    if rule.guesses:
        waiting = [(state, tuple(range(other.states))) for state in rule.demands]
    else:
        waiting = [(start, tuple(rule.far_starts)) for start in rule.near_starts]
    found = {member: True for member in waiting}
    while waiting:
        state, chosen = waiting.pop()
        for step, to in rule.demands[state]:
            member = (to, led(rule.ways, chosen, step[1:3]))
            if member not in found:
                found[member] = True
                waiting.append(member)
    return by_state(one.reachable(), list(found))


def thin_sets(kind, one, other):
    """The dict of the sets of the thin fan of a kind."""
    built = built_sets(kind, one, other)
    return {state: [chosen for chosen in built[state] if is_thin(built[state], chosen)] for state in built}


def is_thin(sets, chosen):
    """Whether no other one of the sets lies within the chosen one."""
    for another in sets:
        if another != chosen and lies_within(another, chosen):
            return False
    return True


def sets_of_singles(matching):
    """The dict from the states to the sets of one partner."""
    return {state: [(far,) for far in matching.partners(state)] for state in matching.one.reachable()}


def sets_of_partners(matching):
    """The dict from the states to the one set of all their partners."""
    return {state: [tuple(matching.partners(state))] for state in matching.one.reachable()}


def settled_sets(kind, one, other, girth):
    """The greatest fan of a kind of at most this girth as members, None without one, and the falls of the others."""
    return settle_sets(kind, one, other, small_sets(list(range(other.states)), girth))


def greatest_sets(kind, one, other, girth):
    """The dict of the sets of the greatest fan of a kind of at most this girth."""
    check_girth(other, girth)
    kept, _ = settled_sets(kind, one, other, girth)
    if kept is None:
        raise NoFan(girth)
    return by_state(one.reachable(), kept)


def least_girth_of(kind, one, other):
    """The least girth of a fan of a kind."""
    check_few_states(other, MOST_FAN_STATES)
    check_standing(one, other)
    girth = 1
    while settled_sets(kind, one, other, girth)[0] is None:
        girth = girth + 1
    return girth


def set_falls(kind, one, other, girth):
    """Falls that show that there is no fan of a kind of at most this girth; None if there is one."""
    check_girth(other, girth)
    kept, falls = settled_sets(kind, one, other, girth)
    return falls if kept is None else None


def are_set_falls(kind, one, other, value, girth):
    """Whether any value is falls that show that there is no fan of a kind of at most this girth."""
    if not is_count(girth):
        raise InvalidNumber(girth)
    check_few_states(other, MOST_FAN_STATES)
    return shows_none(kind, one, other, value, girth)


def check_girth(other, girth):
    """Raise InvalidNumber unless girth is a number of states of the other, and TooMany if these are too many."""
    check_number(girth, 1, other.states)
    check_few_states(other, MOST_FAN_STATES)
