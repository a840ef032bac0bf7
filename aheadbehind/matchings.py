"""Matchings: pairs of states of one box and of another one, forward or backward, and what shows that there is none."""

from aheadbehind.basics import is_integer, is_list, is_state
from aheadbehind.checks import GUESSING, REMEMBERING, check_state, first_wrong, is_like
from aheadbehind.errors import InvalidMatching, InvalidPairs, NoMatching, NotMatched
from aheadbehind.rules import Rule, broken_pairs, lacks_member, settle, shows_none, singles


class Matching:
    """Pairs of a reachable state of one box and a state of another one. It never changes."""

    def __init__(self, one, other, pairs):
        check_pairs(one, other, pairs)
        self._one = one
        self._other = other
        self._pairs = sorted(pairs)

    @staticmethod
    def all_pairs(one, other):
        """The sorted list of all pairs of both boxes."""
        return [(state, far) for state in one.reachable() for far in range(other.states)]

    @property
    def one(self):
        """The box whose reachable states stand first in the pairs."""
        return self._one

    @property
    def other(self):
        """The box whose states stand second in the pairs."""
        return self._other

    def pairs(self):
        """The sorted list of the pairs."""
        return list(self._pairs)

    def partners(self, state):
        """The sorted list of the states of the other box that have a pair with this state."""
        check_state(self._one.states, state)
        return [far for near, far in self._pairs if near == state]

    def is_part_of(self, further):
        """Whether each pair is a pair of the further object, too."""
        check_like(self, further)
        held = {pair: True for pair in further.pairs()}
        return all([pair in held for pair in self._pairs])

    def with_pairs(self, one, other, pairs):
        """An object of the same class."""
        return Matching(one, other, pairs)

    def __len__(self):
        return len(self._pairs)

    def __contains__(self, x):
        # True equals 1, so a look into the list alone would find too much.
        return is_pair_of_integers(x) and x in self._pairs

    def __eq__(self, other):
        return isinstance(other, Matching) and is_like(self, other) and self._pairs == other._pairs

    def __or__(self, other):
        check_like(self, other)
        return self.with_pairs(self._one, self._other, sorted(set(self._pairs + other._pairs)))

    def __rshift__(self, other):
        if not type(self) is type(other) or self._other != other.one:
            raise InvalidMatching(other)
        pairs = sorted({(state, far) for state, between in self._pairs for far in other.partners(between)})
        return self.with_pairs(self._one, other.other, pairs)

    def __repr__(self):
        return f"{self.__class__.__name__}({self._pairs})"


class Forward(Matching):
    """A forward matching: whatever the one does next, the other can do from a partner."""

    def __init__(self, one, other, pairs):
        Matching.__init__(self, one, other, pairs)
        check_matched(REMEMBERING, self)

    @classmethod
    def greatest(cls, one, other):
        """The greatest forward matching of both boxes."""
        return cls(one, other, matched_pairs(REMEMBERING, one, other))

    def with_pairs(self, one, other, pairs):
        """An object of the same class."""
        return Forward(one, other, pairs)


class Backward(Matching):
    """A backward matching: however the one came to a state, the other can have come to a partner."""

    def __init__(self, one, other, pairs):
        Matching.__init__(self, one, other, pairs)
        check_matched(GUESSING, self)

    @classmethod
    def greatest(cls, one, other):
        """The greatest backward matching of both boxes."""
        return cls(one, other, matched_pairs(GUESSING, one, other))

    def with_pairs(self, one, other, pairs):
        """An object of the same class."""
        return Backward(one, other, pairs)


class Both(Forward, Backward):
    """Pairs that are a forward matching and a backward one."""

    def __init__(self, one, other, pairs):
        Forward.__init__(self, one, other, pairs)
        check_matched(GUESSING, self)

    @classmethod
    def greatest(cls, one, other):
        """The greatest set of pairs of both boxes that is a matching of both kinds."""
        rules = [Rule(REMEMBERING, one, other), Rule(GUESSING, one, other)]
        kept, _ = settle(rules, Matching.all_pairs(one, other), broken_pairs)
        if any([lacks_member(rule, singles(kept)) for rule in rules]):
            raise NoMatching()
        return cls(one, other, kept)

    def with_pairs(self, one, other, pairs):
        """An object of the same class."""
        return Both(one, other, pairs)


def check_pairs(one, other, pairs):
    """Raise InvalidPairs unless pairs is a list of unlike pairs of both boxes."""
    if not is_list(pairs):
        raise InvalidPairs(None)
    position = first_wrong(pairs, right_pairs(one, other, pairs))
    if position is not None:
        raise InvalidPairs(position)


def right_pairs(one, other, values):
    """The list that tells of each value whether it is a pair of both boxes."""
    reachable = {state: True for state in one.reachable()}
    return [is_pair_of_integers(value) and value[0] in reachable and is_state(other.states, value[1])
            for value in values]


def is_pair_of_integers(value):
    """Whether any value is a tuple of two integers."""
    return isinstance(value, tuple) and len(value) == 2 and is_integer(value[0]) and is_integer(value[1])


def check_like(matching, further):
    """Raise InvalidMatching unless the further object is of the same class with equal boxes."""
    if not is_like(matching, further):
        raise InvalidMatching(further)


def check_matched(kind, matching):
    """Raise NotMatched unless the pairs keep the rule of a kind, and none is lacking."""
    rule = Rule(kind, matching.one, matching.other)
    broken = broken_pairs(rule, matching.pairs())
    if broken:
        raise NotMatched(broken[0][:2])
    if lacks_member(rule, singles(matching.pairs())):
        raise NotMatched(None)


def is_matching(kind, one, other, value):
    """Whether any value is a list of the pairs of a forward matching, or of a backward one."""
    if not is_list(value) or first_wrong(value, right_pairs(one, other, value)) is not None:
        return False
    rule = Rule(kind, one, other)
    return not broken_pairs(rule, value) and not lacks_member(rule, singles(value))


def settled_pairs(kind, one, other):
    """A tuple of the greatest set of pairs that keeps the rule of a kind, of the falls, and of whether one lacks."""
    rule = Rule(kind, one, other)
    kept, falls = settle([rule], Matching.all_pairs(one, other), broken_pairs)
    return kept, falls, lacks_member(rule, singles(kept))


def matched_pairs(kind, one, other):
    """The greatest matching of a kind as pairs."""
    kept, _, lacking = settled_pairs(kind, one, other)
    if lacking:
        raise NoMatching()
    return kept


def pair_falls(kind, one, other):
    """Falls that show that there is no matching of a kind; None if there is one."""
    _, falls, lacking = settled_pairs(kind, one, other)
    return falls if lacking else None


def shows_no_matching(kind, one, other, value):
    """Whether any value is falls that show that there is no matching of a kind."""
    if not is_list(value) or not all([isinstance(fall, tuple) and len(fall) == 3 for fall in value]):
        return False
    return shows_none(kind, one, other, [(state, (far,), why) for state, far, why in value], 1)


def forward_kept(one, other):
    """The sorted list of the greatest set of pairs that keeps the forward rule."""
    return settled_pairs(REMEMBERING, one, other)[0]


def backward_kept(one, other):
    """The sorted list of the greatest set of pairs that keeps the backward rule."""
    return settled_pairs(GUESSING, one, other)[0]


def forward_falls(one, other):
    """Falls that show that there is no forward matching; None if there is one."""
    return pair_falls(REMEMBERING, one, other)


def backward_falls(one, other):
    """Falls that show that there is no backward matching; None if there is one."""
    return pair_falls(GUESSING, one, other)


def are_forward_falls(one, other, value):
    """Whether any value is falls that show that there is no forward matching."""
    return shows_no_matching(REMEMBERING, one, other, value)


def are_backward_falls(one, other, value):
    """Whether any value is falls that show that there is no backward matching."""
    return shows_no_matching(GUESSING, one, other, value)
