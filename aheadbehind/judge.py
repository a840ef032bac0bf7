"""A judge of claims about two boxes, and of the papers that show that they are true."""

from aheadbehind.basics import is_count, is_list, is_row
from aheadbehind.boxes import Box
from aheadbehind.changes import MOST_CHANGED_STEPS, is_tree, leave_outs, tree
from aheadbehind.checks import (
    GUESSING, REMEMBERING, check_few_states, check_few_steps, check_limited, first_wrong, is_kind,
)
from aheadbehind.errors import InvalidClaim, Untrue
from aheadbehind.families import MOST_FAMILY_STATES, family_middle, least_families
from aheadbehind.fans import MOST_FAN_STATES, are_set_falls, is_fan, settled_sets, thin_sets
from aheadbehind.matchings import is_matching, pair_falls, settled_pairs, shows_no_matching
from aheadbehind.middles import is_middle
from aheadbehind.rows import gives
from aheadbehind.rules import by_state
from aheadbehind.standing import is_missing_walk, missing_walk, parting_row, stands_for

# The keys of each claim beside its word and its boxes.
FURTHER_KEYS = {
    "stands": (),
    "missing": (),
    "forward": (),
    "backward": (),
    "no forward": (),
    "no backward": (),
    "girth": ("kind", "number"),
    "wider": ("kind", "number"),
    "between": ("kind", "number"),
    "alike": (),
    "apart": (),
    "fewer": ("number",),
    "more": ("number",),
}

# The greatest number of those claims in which it has a limit.
MOST_NUMBERS = {"between": 3, "fewer": 3, "more": 2}


def is_claim(value):
    """Whether any value is a claim."""
    if not isinstance(value, dict) or not all([isinstance(key, str) for key in value]):
        return False
    word = value.get("claim")
    if not isinstance(word, str) or word not in FURTHER_KEYS:
        return False
    further = FURTHER_KEYS[word]
    if sorted(value) != sorted(["claim", "one", "other", *further]):
        return False
    if not isinstance(value["one"], Box) or not isinstance(value["other"], Box):
        return False
    if "kind" in value and not is_kind(value["kind"]):
        return False
    return "number" not in value or is_number_for(word, value["number"])


def is_number_for(word, value):
    """Whether any value is a number that a claim with this word may have."""
    return is_count(value) and (word not in MOST_NUMBERS or value <= MOST_NUMBERS[word])


def check_claim(claim):
    """Raise InvalidClaim unless this is a claim."""
    if not is_claim(claim):
        raise InvalidClaim(claim)


def check_sizes(claim):
    """Raise TooMany if a box of the claim is too large to find a paper."""
    word = claim["claim"]
    if word in ("forward", "backward", "no forward", "no backward"):
        return
    if word in ("girth", "wider"):
        check_few_states(claim["other"], MOST_FAN_STATES)
    elif word == "between":
        check_few_states(claim["other"], MOST_FAMILY_STATES)
    else:
        if word in ("fewer", "more"):
            check_few_steps(claim["one"], MOST_CHANGED_STEPS)
        if word in ("alike", "apart"):
            check_limited(claim["one"])
        check_limited(claim["other"])


def rule_kind(claim):
    """The kind whose rule the pairs of this claim keep."""
    return REMEMBERING if claim["claim"] in ("forward", "no forward") else GUESSING


def remembered_sets(one, other):
    """The dict of a remembering fan; None if the one does not stand for the other."""
    return thin_sets(REMEMBERING, one, other) if stands_for(one, other) else None


def found_stands(one, other, claim):
    """A kind and a fan of it."""
    sets = remembered_sets(one, other)
    return None if sets is None else (REMEMBERING, sets)


def is_stands(one, other, claim, value):
    """Whether any value is a kind and a fan of it."""
    return is_pair(value) and is_kind(value[0]) and is_fan(value[0], one, other, value[1])


def found_missing(one, other, claim):
    """A walk whose row is missing."""
    return missing_walk(one, other)


def is_missing_paper(one, other, claim, value):
    """Whether any value is a walk whose row is missing."""
    return is_missing_walk(one, other, value)


def found_matching(one, other, claim):
    """The pairs of a matching."""
    kept, _, lacking = settled_pairs(rule_kind(claim), one, other)
    return None if lacking else kept


def is_matching_paper(one, other, claim, value):
    """Whether any value is a list of the pairs of a matching."""
    return is_matching(rule_kind(claim), one, other, value)


def found_no_matching(one, other, claim):
    """Falls that show that there is no matching."""
    return pair_falls(rule_kind(claim), one, other)


def is_no_matching(one, other, claim, value):
    """Whether any value is falls that show that there is no matching."""
    return shows_no_matching(rule_kind(claim), one, other, value)


def found_girth(one, other, claim):
    """The dict of a fan of at most this girth."""
    kept, _ = settled_sets(claim["kind"], one, other, claim["number"])
    return None if kept is None else by_state(one.reachable(), kept)


def is_girth(one, other, claim, value):
    """Whether any value is the dict of a fan of at most this girth."""
    if not is_fan(claim["kind"], one, other, value):
        return False
    return all([len(chosen) <= claim["number"] for sets in value.values() for chosen in sets])


def found_wider(one, other, claim):
    """Falls that show that there is no fan of this girth."""
    kept, falls = settled_sets(claim["kind"], one, other, claim["number"])
    return falls if kept is None else None


def is_wider(one, other, claim, value):
    """Whether any value is falls that show that there is no fan of this girth."""
    return are_set_falls(claim["kind"], one, other, value, claim["number"])


def found_between(one, other, claim):
    """A middle with at most so many states."""
    if not stands_for(one, other):
        return None
    families = least_families(one, other, claim["kind"])
    if not families or len(families[0]) > claim["number"]:
        return None
    return family_middle(one, other, claim["kind"], families[0])


def is_between(one, other, claim, value):
    """Whether any value is a middle with at most so many states."""
    return is_middle(one, other, claim["kind"], value) and value[0].states <= claim["number"]


def found_alike(one, other, claim):
    """Two remembering fans, one each way."""
    sets = remembered_sets(one, other)
    further = remembered_sets(other, one)
    return None if sets is None or further is None else (sets, further)


def is_alike(one, other, claim, value):
    """Whether any value is two remembering fans, one each way."""
    return is_pair(value) and is_fan(REMEMBERING, one, other, value[0]) and is_fan(REMEMBERING, other, one, value[1])


def found_apart(one, other, claim):
    """A row that just one of both gives."""
    return parting_row(one, other)


def is_apart(one, other, claim, value):
    """Whether any value is a row that just one of both gives."""
    return is_row(value) and gives(one, value) != gives(other, value)


def found_fewer(one, other, claim):
    """At most so many steps, and a remembering fan without them."""
    found = leave_outs(one, other)
    if not found or len(found[0]) > claim["number"]:
        return None
    return found[0], remembered_sets(one.without(found[0]), other)


def is_fewer(one, other, claim, value):
    """Whether any value is at most so many steps, and a remembering fan without them."""
    if not is_pair(value) or not is_list(value[0]) or len(value[0]) > claim["number"]:
        return False
    if first_wrong(value[0], [step in one for step in value[0]]) is not None:
        return False
    return is_fan(REMEMBERING, one.without(value[0]), other, value[1])


def found_more(one, other, claim):
    """A tree of this depth."""
    return tree(one, other, claim["number"])


def is_more(one, other, claim, value):
    """Whether any value is a tree of this depth."""
    return is_tree(one, other, claim["number"], value)


def is_pair(value):
    """Whether any value is a tuple of two."""
    return isinstance(value, tuple) and len(value) == 2


FINDERS = {
    "stands": found_stands,
    "missing": found_missing,
    "forward": found_matching,
    "backward": found_matching,
    "no forward": found_no_matching,
    "no backward": found_no_matching,
    "girth": found_girth,
    "wider": found_wider,
    "between": found_between,
    "alike": found_alike,
    "apart": found_apart,
    "fewer": found_fewer,
    "more": found_more,
}

CHECKERS = {
    "stands": is_stands,
    "missing": is_missing_paper,
    "forward": is_matching_paper,
    "backward": is_matching_paper,
    "no forward": is_no_matching,
    "no backward": is_no_matching,
    "girth": is_girth,
    "wider": is_wider,
    "between": is_between,
    "alike": is_alike,
    "apart": is_apart,
    "fewer": is_fewer,
    "more": is_more,
}


def found_paper(claim):
    """A paper of a claim; None if it is not true."""
    check_claim(claim)
    check_sizes(claim)
    finder = FINDERS[claim["claim"]]
    return finder(claim["one"], claim["other"], claim)


def is_true(claim):
    """Whether a claim is true."""
    return found_paper(claim) is not None


def is_paper(claim, value):
    """Whether any value is a paper of the claim."""
    check_claim(claim)
    checker = CHECKERS[claim["claim"]]
    return checker(claim["one"], claim["other"], claim, value)


def paper_for(claim):
    """A paper of the claim."""
    paper = found_paper(claim)
    if paper is None:
        raise Untrue()
    return paper
