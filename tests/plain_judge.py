"""Plain reckonings of claims and papers, by the words of the document, over small boxes.

A paper that is checked here has the right form; of the package only boxes are used.
"""

import itertools

from tests import plain, plain_fans, plain_more

WORDS = {
    "stands": (), "missing": (), "forward": (), "backward": (), "no forward": (), "no backward": (),
    "girth": ("kind", "number"), "wider": ("kind", "number"), "between": ("kind", "number"),
    "alike": (), "apart": (), "fewer": ("number",), "more": ("number",),
}
MOST = {"between": 3, "fewer": 3, "more": 2}


def claims(one, other, numbers=(0, 1, 2, 3)):
    """All claims about two boxes with these numbers, as far as they are within their limits."""
    found = []
    for word, further in WORDS.items():
        for kind in plain_fans.KINDS if "kind" in further else (None,):
            for number in numbers if "number" in further else (None,):
                if number is None or number <= MOST.get(word, number):
                    told = {"claim": word, "one": one, "other": other, "kind": kind, "number": number}
                    found.append({key: value for key, value in told.items() if value is not None})
    return found


def is_true(claim):
    """Whether a claim is true."""
    word, one, other, number = claim["claim"], claim["one"], claim["other"], claim.get("number")
    if word in ("stands", "missing"):
        return plain_more.stands(one, other) is (word == "stands")
    if word in ("forward", "no forward"):
        return plain.has_forward(one, other) is (word == "forward")
    if word in ("backward", "no backward"):
        return plain.has_backward(one, other) is (word == "backward")
    if word in ("girth", "wider"):
        sets = plain_fans.all_sets(other.states, number)
        return (plain_fans.greatest(claim["kind"], one, other, sets) is not None) is (word == "girth")
    if word == "between":
        sets = plain_fans.all_sets(other.states, other.states)
        families = [family for size in range(1, number + 1) for family in itertools.combinations(sets, size)]
        return any(plain_fans.greatest(claim["kind"], one, other, family) is not None for family in families)
    if word in ("alike", "apart"):
        return (plain_more.stands(one, other) and plain_more.stands(other, one)) is (word == "alike")
    size, _ = plain_more.leave_outs(one, other, number)
    return (size is not None) is (word == "fewer")


def are_unlike(values):
    return all(value not in values[:place] for place, value in enumerate(values))


def is_paper(claim, paper):
    """Whether a value of the right form is a paper of the claim."""
    word, one, other, number = claim["claim"], claim["one"], claim["other"], claim.get("number")
    if word == "stands":
        return paper[0] in plain_fans.KINDS and is_fan(paper[0], one, other, paper[1])
    if word == "missing":
        return plain_more.is_walk(one, paper) and not plain.gives(other, [step[1:3] for step in paper])
    if word == "forward":
        return are_pairs(one, other, paper) and plain.is_forward(one, other, paper)
    if word == "backward":
        return are_pairs(one, other, paper) and plain.is_backward(one, other, paper)
    if word == "no forward":
        return plain.are_forward_falls(one, other, paper)
    if word == "no backward":
        return plain.are_backward_falls(one, other, paper)
    if word == "girth":
        return is_fan(claim["kind"], one, other, paper) and all(len(chosen) <= number for _, chosen in plain_fans.members(paper))
    if word == "wider":
        return plain_fans.are_falls(claim["kind"], one, other, paper, number)
    if word == "between":
        return paper[0].states <= number and is_middle(claim["kind"], one, other, *paper)
    if word == "alike":
        return is_fan("remembering", one, other, paper[0]) and is_fan("remembering", other, one, paper[1])
    if word == "apart":
        return plain.gives(one, paper) is not plain.gives(other, paper)
    if word == "fewer":
        steps, fan = paper
        if len(steps) > number or not are_unlike(steps) or not all(step in one.steps() for step in steps):
            return False
        return is_fan("remembering", plain_more.left_out(one, steps), other, fan)
    return plain_more.is_tree(one, other, number, paper)


def are_pairs(one, other, pairs):
    return are_unlike(pairs) and all(pair in plain.all_pairs(one, other) for pair in pairs)


def is_fan(kind, one, other, fan):
    """Whether a dict from numbers to lists of tuples of numbers is a fan of the kind."""
    sets = plain_fans.all_sets(other.states, other.states)
    if sorted(fan) != plain.reached(one) or not all(are_unlike(fan[state]) for state in fan):
        return False
    return all(chosen in sets for _, chosen in plain_fans.members(fan)) and plain_fans.is_fan(kind, one, other, fan)


def is_middle(kind, one, other, box, pairs, further):
    first, second = (plain.is_forward, plain.is_backward)[::1 if kind == "remembering" else -1]
    return (are_pairs(one, box, pairs) and first(one, box, pairs)
            and are_pairs(box, other, further) and second(box, other, further))
