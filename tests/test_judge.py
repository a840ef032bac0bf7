"""Points [4], [92]: claims about two boxes, whether they are true, and the papers that show it."""

import copy
import unittest

from aheadbehind.basics import is_count
from aheadbehind.boxes import Box
from aheadbehind.errors import InvalidClaim, TooMany, Untrue
from aheadbehind.judge import is_claim, is_paper, is_true, paper_for
from aheadbehind.muffled import Muffled
from tests import plain, plain_fans, plain_judge
from tests.plain_judge import MOST, WORDS
from tests.refusals import Refusals
from tests.values import MOST_DIGITS, EqualToAll, early, late, many_steps, parts, ring, told, unlike_values, wide, wrong_kinds

FLIP = (0, "flip", "ok", 1)
HEAD = (1, "look", "head", 2)
TAIL = (1, "look", "tail", 2)
FAN = {0: [(0,)], 1: [(1, 2)], 2: [(3,)]}
GUESS = {0: [(0,)], 1: [(1,), (2,)], 2: [(3,)]}
BACK = [(0, 0), (1, 1), (1, 2), (2, 3)]


def headed():
    """The box late without one of its answers."""
    return late() - TAIL


def claim_of(word, one=None, other=None, kind="remembering", number=2):
    """A claim with this word, with just the keys that it has."""
    boxes = {"one": late() if one is None else one, "other": early() if other is None else other}
    told_all = {"claim": word, **boxes, "kind": kind, "number": number}
    return {key: value for key, value in told_all.items() if key in ("claim", "one", "other", *WORDS[word])}


def wrong_claims():
    """Values that are no claims."""
    wrong = unlike_values() + [Box, late(), list(claim_of("stands").items()), "stands", {"claim": "stands"}]
    for word, further in WORDS.items():
        good = claim_of(word)
        for key in good:
            wrong.append({other: good[other] for other in good if other != key})
            wrong.append({(key.upper() if other == key else other): good[other] for other in good})
            wrong.extend({**good, key: value} for value in (None, [], True, EqualToAll(), -1, "two", {}, late))
        for key in ("kind", "number", "paper", "", "Claim"):
            if key not in good:
                wrong.append({**good, key: {"kind": "guessing", "number": 1}.get(key, 0)})
        for key in (0, None, True, b"claim", ("claim",), EqualToAll()):
            wrong.append({**good, key: 0})
        for key in ("one", "other"):
            wrong.extend({**good, key: value} for value in unlike_values() if not isinstance(value, Box))
            wrong.append({**good, key: Muffled(1, [0], [])})
        words = [word.upper(), word + " ", " " + word, [word], (word,)]
        wrong.extend({**good, "claim": value} for value in unlike_values() + words)
        wrong.extend({**good, "claim": other} for other in WORDS if WORDS[other] != further)
        if "kind" in further:
            wrong.extend({**good, "kind": value} for value in wrong_kinds())
        if "number" in further:
            wrong.extend({**good, "number": value} for value in unlike_values()
                         if not is_count(value) or value > MOST.get(word, value))
            wrong.extend({**good, "number": value} for value in (-1, True, False, None, "1", [1], (1,), EqualToAll()))
            if word in MOST:
                wrong.append({**good, "number": MOST[word] + 1})
    return wrong


class TestIsClaim(Refusals):
    def test_claims(self):
        for word in WORDS:
            for kind in plain_fans.KINDS:
                for number in (0, 1, MOST.get(word, 24), MOST.get(word, MOST_DIGITS)):
                    self.assertIs(is_claim(claim_of(word, kind=kind, number=number)), True)
            self.assertIs(is_claim(value=claim_of(word, wide(40), ring(30))), True)

    def test_the_order_of_the_keys_has_no_effect(self):
        for word in WORDS:
            good = claim_of(word)
            turned = {key: good[key] for key in list(good)[::-1]}
            self.assertIs(is_claim(turned), True)
            self.assertIs(is_true(turned), is_true(good))

    def test_values_that_are_none(self):
        count = 0
        for value in wrong_claims():
            self.assertIs(is_claim(value), False, told(value))
            count += 1
        self.assertTrue(count > 2000)

    def test_values_that_are_none_are_refused_everywhere(self):
        for value in wrong_claims()[::7] + wrong_claims()[:120]:
            self.refuse(InvalidClaim, [value], is_true, value)
            self.refuse(InvalidClaim, [value], paper_for, value)
            self.refuse(InvalidClaim, [value], is_paper, value, None)
        self.refuse(InvalidClaim, [None], is_true, claim=None)
        self.refuse(InvalidClaim, [None], paper_for, claim=None)
        self.refuse(InvalidClaim, [None], is_paper, value=FAN, claim=None)

    def test_a_wrong_claim_about_large_boxes(self):
        for word in WORDS:
            wrong = {**claim_of(word, wide(9, [0], many_steps(30)), wide(9)), "more": 1}
            self.refuse(InvalidClaim, [wrong], is_true, wrong)
            self.refuse(InvalidClaim, [wrong], paper_for, wrong)


class TestIsTrue(Refusals):
    def check(self, word, one, other, wanted, kind="remembering", number=2):
        claim = claim_of(word, one, other, kind, number)
        self.assertIs(is_true(claim), wanted, told(claim))
        if wanted:
            self.assertIs(is_paper(claim, paper_for(claim)), True)
        else:
            self.refuse(Untrue, [], paper_for, claim)

    def test_each_word(self):
        for word, yes, no in (
            ("stands", (late(), early()), (late(), headed())), ("missing", (early(), headed()), (early(), late())),
            ("forward", (early(), late()), (late(), early())), ("backward", (late(), early()), (late(), headed())),
            ("no forward", (late(), early()), (early(), late())), ("no backward", (late(), headed()), (late(), early())),
            ("girth", (late(), early()), (late(), headed())), ("wider", (late(), headed()), (late(), early())),
            ("between", (headed(), headed().part()), (late(), early())), ("alike", (late(), early()), (headed(), late())),
            ("apart", (headed(), late()), (early(), late())), ("fewer", (early(), headed()), None),
            ("more", None, (early(), headed())),
        ):
            for pair, wanted in ((yes, True), (no, False)):
                if pair:
                    self.check(word, *pair, wanted, number=3 if word == "between" and wanted else 2)

    def test_numbers(self):
        for number, wanted in ((0, False), (1, False), (2, True), (3, True), (4, True), (5, True), (MOST_DIGITS, True)):
            self.check("girth", late(), early(), wanted, number=number)
            self.check("wider", late(), early(), not wanted, number=number)
            self.check("girth", late(), headed(), False, number=number)
            self.check("wider", late(), headed(), True, "guessing", number)
        for number, wanted in ((0, False), (1, True), (2, True)):
            self.check("girth", late(), early(), wanted, "guessing", number)
            self.check("wider", late(), early(), not wanted, "guessing", number)
        for number, wanted in ((0, False), (1, False), (2, False), (3, True)):
            self.check("between", late(), early(), wanted, number=number)
            self.check("between", late(), early(), False, "guessing", number)
            self.check("between", late(), headed(), False, number=number)
        for number in range(4):
            self.check("between", ring(2), ring(1), number > 0, "guessing", number)
        for number in range(4):
            self.check("fewer", wide(2, [0], [(0, "go", word, 1) for word in "abc"]), Box(1, [0]), number == 3, number=number)
            self.check("fewer", late(), early(), True, number=number)
            self.check("fewer", wide(2, [0], [(0, "go", word, 1) for word in "abcd"]), Box(1, [0]), False, number=number)
        for number in range(3):
            self.check("more", early(), headed(), number == 0, number=number)
            self.check("more", late(), early(), False, number=number)
            self.check("more", wide(2, [0], [(0, "go", word, 1) for word in "abc"]), Box(1, [0]), True, number=number)

    def test_boxes_without_steps(self):
        quiet = Box(1, [0])
        for word in ("stands", "forward", "backward", "girth", "alike"):
            self.check(word, quiet, Box(3, [2, 1]), True)
        for word in ("missing", "no forward", "no backward", "wider", "apart", "more"):
            self.check(word, quiet, Box(3, [2, 1]), False)

    def test_by_name(self):
        self.assertIs(is_true(claim=claim_of("stands")), True)
        self.assertIs(is_paper(value=paper_for(claim=claim_of("stands")), claim=claim_of("stands")), True)


class TestTooMany(Refusals):
    def refuse_both(self, values, word, one, other, number=2):
        for kind in plain_fans.KINDS:
            for deed in (is_true, paper_for):
                self.refuse(TooMany, values, deed, claim_of(word, one, other, kind, number))

    def test_no_limit_for_matchings(self):
        for word in ("forward", "backward"):
            claim = claim_of(word, ring(20), ring(20))
            self.assertIs(is_paper(claim, paper_for(claim)), True)
        for word in ("no forward", "no backward"):
            claim = claim_of(word, ring(9), wide(9))
            self.assertIs(is_paper(claim, paper_for(claim)), True)

    def test_girths(self):
        for word in ("girth", "wider"):
            for kind in plain_fans.KINDS:
                self.assertIs(is_true(claim_of(word, ring(9), ring(5), kind, 5)), word == "girth")
            for number in (0, 1, 6, 9):
                self.refuse_both(["states", 5], word, late(), ring(6), number)
                self.refuse_both(["states", 5], word, ring(40), wide(6), number)

    def test_between(self):
        self.assertIs(is_true(claim_of("between", ring(9), ring(4), number=3)), False)
        self.assertIs(is_true(claim_of("between", ring(9), ring(3), number=3)), True)
        for number in (0, 3):
            self.refuse_both(["states", 4], "between", late(), ring(5), number)
            self.refuse_both(["states", 4], "between", ring(40), ring(9), number)

    def test_stands_and_missing(self):
        for word in ("stands", "missing"):
            self.assertIs(is_true(claim_of(word, ring(40), ring(7))), word == "stands")
            self.refuse_both(["states", 7], word, ring(1), ring(8))

    def test_alike_and_apart(self):
        for word in ("alike", "apart"):
            self.assertIs(is_true(claim_of(word, ring(7), ring(7))), word == "alike")
            self.refuse_both(["states", 7], word, ring(8), ring(7))
            self.refuse_both(["states", 7], word, ring(7), ring(8))

    def test_fewer_and_more(self):
        twelve, thirteen = ([(0, "go", answer, 0) for answer in "abcdefghijklm"[:count]] for count in (12, 13))
        for word in ("fewer", "more"):
            self.assertIs(is_true(claim_of(word, wide(1, [0], twelve), wide(7, [0], thirteen))), word == "fewer")
            self.assertIs(is_true(claim_of(word, wide(1, [0], twelve), wide(7))), word == "more")
            self.refuse_both(["steps", 12], word, wide(1, [0], thirteen), ring(7))
            self.refuse_both(["steps", 12], word, wide(1, [0], thirteen), ring(8))
            self.refuse_both(["states", 7], word, wide(1, [0], twelve), ring(8))
            self.assertIs(is_true(claim_of(word, wide(40), ring(7))), word == "fewer")

    def test_untrue_stands_behind(self):
        claim = claim_of("missing", ring(1), ring(8))
        self.refuse(TooMany, ["states", 7], paper_for, claim)
        self.refuse(Untrue, [], paper_for, claim_of("missing", ring(1), ring(7)))
        self.refuse(TooMany, ["states", 5], paper_for, claim_of("wider", ring(1), ring(6)))

    def test_papers_have_no_limits_but_those_of_wider(self):
        big = wide(9, [0], [(state, "go", "ok", (state + 1) % 9) for state in range(9)])
        lines = {state: [(state,)] for state in range(9)}
        pairs = [(state, state) for state in range(9)]
        for claim, paper in (
            (claim_of("stands", big, big), ("guessing", lines)), (claim_of("girth", big, big, number=1), lines),
            (claim_of("alike", big, big), (lines, lines)), (claim_of("fewer", big, big), ([], lines)),
            (claim_of("between", big, big, number=3), (big, pairs, pairs)), (claim_of("forward", big, big), pairs),
            (claim_of("missing", big, wide(9)), [(0, "go", "ok", 1)]), (claim_of("apart", wide(9), big), [("go", "ok")]),
            (claim_of("more", wide(2, [0], [(0, "go", a * 2, 1) for a in "abcdefghijklm"]), wide(9), number=0),
             ([(0, "go", "aa", 1)], {})),
        ):
            self.assertIs(is_paper(claim, paper), claim["claim"] != "between", told(claim))
            self.assertIs(is_paper(claim, None), False)
        for number in (0, 1, 9):
            for value in (None, [], FAN):
                self.refuse(TooMany, ["states", 5], is_paper, claim_of("wider", late(), ring(6), number=number), value)
        self.assertIs(is_paper(claim_of("wider", late(), ring(5), number=0), []), True)

    def test_a_middle_between_large_boxes(self):
        claim = claim_of("between", ring(9), ring(9).with_starts(list(range(9))), number=1)
        self.assertIs(is_paper(claim, (ring(1), [(state, 0) for state in range(9)], [(0, state) for state in range(9)])), True)


def can_be_key(value):
    """Whether a value can be a key of a dict."""
    try:
        hash(value)
    except TypeError:
        return False
    return True


def spoilt(value):
    """Values that equal this one but for a kind: True for 1, a list for a tuple and the like."""
    if value is None or isinstance(value, Box):
        return [0, (), repr(value)]
    if isinstance(value, int):
        return [None, str(value), [value]] + ([bool(value)] if value in (0, 1) else [])
    if isinstance(value, str):
        return [None, value + " ", value.encode(), [value]]
    if isinstance(value, dict):
        found = [None, list(value.items()), [value], tuple(value)]
        for key in value:
            rest = {other: value[other] for other in value if other != key}
            found.extend({**rest, key: wrong} for wrong in spoilt(value[key]))
            found.extend({**rest, wrong: value[key]} for wrong in spoilt(key) if can_be_key(wrong))
        return found
    found = [None, dict(enumerate(value)), iter(list(value)), 1, [value]]
    found += [list(value)] if isinstance(value, tuple) else []
    for place, part in enumerate(value):
        for wrong in spoilt(part) + [EqualToAll()]:
            changed = list(value)
            changed[place] = wrong
            found.append(tuple(changed) if isinstance(value, tuple) else changed)
    return found


def as_tuples(value):
    """The same value with a tuple for each list."""
    if isinstance(value, dict):
        return {key: as_tuples(part) for key, part in value.items()}
    return tuple(as_tuples(part) for part in value) if isinstance(value, (list, tuple)) else value


def changed_parts(value, pool):
    """Values of the same form in which one part, at any depth, is left out, doubled, turned or another one."""
    found = []
    if isinstance(value, dict):
        for key in value:
            found.append({other: value[other] for other in value if other != key})
            found.extend({**value, key: part} for part in changed_parts(value[key], pool))
        found.extend({**value, key: value[first]} for key in pool if isinstance(key, int) for first in list(value)[:1])
    elif isinstance(value, list):
        found.append(value[::-1])
        for place in range(len(value)):
            found.append(value[:place] + value[place + 1:])
            found.append(value[:place] + [value[place]] + value[place:])
            found.extend(value[:place] + [part] + value[place + 1:] for part in changed_parts(value[place], pool))
    elif isinstance(value, tuple):
        for place in range(len(value)):
            found.extend((*value[:place], part, *value[place + 1:]) for part in changed_parts(value[place], pool))
    elif isinstance(value, (int, str)):
        found.extend(part for part in pool if type(part) is type(value) and part != value)
    elif value is None:
        found.extend(part for part in pool if isinstance(part, tuple))
    return found


class TestIsPaper(Refusals):
    def check(self, claim, value, wanted):
        self.assertIs(is_paper(claim, value), wanted, told((claim["claim"], value)))

    def good(self):
        """Tuples (claim, paper), one at least for each word."""
        two = wide(2, [0], [(0, "go", word, 1) for word in "ab"])
        first, second = two.steps()
        look = [(1, 1, TAIL), (1, 2, HEAD), (0, 0, FLIP)]
        back = [(2, 2, TAIL), (1, 0, FLIP), (1, 2, FLIP), (2, 0, TAIL), (0, 1, None), (0, 2, None), (2, 1, TAIL)]
        singles = [(a, (b,), why) for a, b, why in look]
        return [
            (claim_of("stands"), ("remembering", FAN)), (claim_of("stands"), ("guessing", GUESS)),
            (claim_of("missing", late(), headed()), [FLIP, TAIL]),
            (claim_of("forward", early(), late()), [(3, 2), (0, 0), (1, 1), (2, 1)]),
            (claim_of("backward"), BACK[::-1]), (claim_of("no forward"), look),
            (claim_of("no backward", late(), headed()), back), (claim_of("girth"), FAN),
            (claim_of("girth", kind="guessing", number=1), GUESS),
            (claim_of("wider", number=1), singles),
            (claim_of("wider", late(), headed(), "guessing", 1), [(a, (b,), why) for a, b, why in back]),
            (claim_of("between", number=3), (late(), [(0, 0), (1, 1), (2, 2)], BACK)),
            (claim_of("alike"), (FAN, {0: [(0,)], 1: [(1,)], 2: [(1,)], 3: [(2,)]})),
            (claim_of("apart", headed(), late()), [("flip", "ok"), ("look", "tail")]),
            (claim_of("fewer", early(), headed(), number=1), ([(0, "flip", "ok", 2)], {0: [(0,)], 1: [(1,)], 3: [(2,)]})),
            (claim_of("more", two, Box(1, [0]), number=1), ([first], {first: ([second], {})})),
        ]

    def test_right_ones(self):
        self.assertEqual({claim["claim"] for claim, _ in self.good()}, set(WORDS))
        for claim, paper in self.good():
            self.check(claim, paper, True)
            self.assertTrue(plain_judge.is_paper(claim, paper))
            self.assertIs(is_true(claim), True)

    def test_tuples_in_the_place_of_lists(self):
        for claim, paper in self.good():
            self.check(claim, as_tuples(paper), True)

    def test_values_of_many_kinds(self):
        for claim, _ in self.good():
            for value in unlike_values():
                self.check(claim, value, False)

    def test_one_part_of_another_kind(self):
        count = 0
        for claim, paper in self.good():
            for value in spoilt(paper):
                self.check(claim, value, False)
                count += 1
        self.assertTrue(count > 1000, count)

    def test_one_part_spoilt(self):
        counts = {True: 0, False: 0}
        for claim, paper in self.good():
            pool = [0, 1, 2, 3, 4, -1, "ok", "remembering", "guessing", "flip", "look", "head", "tail", FLIP, TAIL]
            for value in changed_parts(paper, pool):
                wanted = plain_judge.is_paper(claim, value)
                self.check(claim, value, wanted)
                counts[wanted] += 1
        self.assertTrue(counts[False] > 500 and counts[True] > 20, counts)

    def test_the_empty_row_and_the_empty_walk(self):
        self.check(claim_of("apart", headed(), late()), [], False)
        self.check(claim_of("missing", late(), headed()), [], False)
        self.check(claim_of("apart", headed(), late()), [("look", "tail")], False)

    def test_numbers(self):
        for number, wanted in ((0, False), (1, False), (2, True), (9, True), (MOST_DIGITS, True)):
            self.check(claim_of("girth", number=number), FAN, wanted)
        for number in range(4):
            self.check(claim_of("between", number=number), (late(), [(0, 0), (1, 1), (2, 2)], BACK), number == 3)
            paper = ([(0, "flip", "ok", 2)], {0: [(0,)], 1: [(1,)], 3: [(2,)]})
            self.check(claim_of("fewer", early(), headed(), number=number), paper, number > 0)
        for number in range(3):
            self.check(claim_of("more", late(), headed(), number=number), ([FLIP, TAIL], {}), number == 0)
        self.check(claim_of("wider", number=0), [], True)
        self.check(claim_of("wider", number=0), (), True)
        self.check(claim_of("wider", number=1), [], False)

    def test_fewer_with_steps_that_need_not_be_left_out(self):
        claim = claim_of("fewer", early(), headed(), number=3)
        steps = [(2, "look", "tail", 3), (1, "look", "head", 3)]
        self.check(claim, (steps, {0: [(0,)], 1: [(1,)], 2: [(1,)]}), True)
        self.check(claim, (steps[::-1], {0: [(0,)], 1: [(1,)], 2: [(1,)]}), True)
        self.check(claim, (steps + steps[:1], {0: [(0,)], 1: [(1,)], 2: [(1,)]}), False)
        self.check(claim, (steps, {0: [(0,)], 1: [(1,)], 2: [(1,)], 3: [(2,)]}), False)
        self.check(claim, (steps[1:], {0: [(0,)], 1: [(1,)], 2: [(1,)]}), False)
        self.check(claim, (early().steps(), {0: [(0,)]}), False)
        self.check(claim, ([(0, "flip", "ok", 3)], {0: [(0,)], 1: [(1,)], 2: [(1,)]}), False)

    def test_what_is_passed_stays_and_what_is_told_is_new(self):
        for claim, paper in self.good():
            boxes = parts(claim["one"]), parts(claim["other"])
            before = repr(claim), copy.deepcopy(paper)
            is_paper(claim, paper)
            found = paper_for(claim)
            kept = copy.deepcopy(found)
            self.empty(found)
            self.assertEqual(paper_for(claim), kept)
            self.assertEqual((repr(claim), paper), before)
            self.assertEqual((parts(claim["one"]), parts(claim["other"])), boxes)

    def empty(self, value):
        """Empty all lists and dicts in a value."""
        if isinstance(value, (list, tuple)):
            for part in value:
                self.empty(part)
        if isinstance(value, dict):
            for part in value.values():
                self.empty(part)
        if isinstance(value, (list, dict)):
            value.clear()


class TestFacts(unittest.TestCase):
    """Against a plain reckoning over many small boxes."""

    def check(self, one, other, counts):
        for claim in plain_judge.claims(one, other):
            wanted = plain_judge.is_true(claim)
            self.assertIs(is_claim(claim), True)
            self.assertIs(is_true(claim), wanted, told(claim))
            counts[claim["claim"], wanted] = counts.get((claim["claim"], wanted), 0) + 1
            if wanted:
                paper = paper_for(claim)
                self.assertTrue(plain_judge.is_paper(claim, paper), told((claim, paper)))
                self.assertIs(is_paper(claim, paper), True)
                self.in_form(claim["claim"], paper)
            else:
                with self.assertRaises(Untrue):
                    paper_for(claim)

    def in_form(self, word, paper):
        """Papers are told as lists, tuples and dicts, just as the document has them; keys of dicts are sorted."""
        kinds = {"stands": (str, dict), "between": (Box, list, list), "alike": (dict, dict), "fewer": (list, dict),
                 "more": (list, dict)}
        if word in kinds:
            self.assertEqual((type(paper), tuple(type(part) for part in paper)), (tuple, kinds[word]))
        else:
            self.assertIs(type(paper), dict if word == "girth" else list)
        for part in [paper, *(paper if isinstance(paper, tuple) else [])]:
            if isinstance(part, dict):
                self.assertEqual(list(part), sorted(part))

    def test_claims_have_papers_exactly_if_they_are_true(self):
        counts = {}
        pairs = plain.some_pairs(45, 431, 3, 6, plain.SIGNS[:2])
        apart = zip(plain.some_boxes(20, 433, 3, 8, plain.SIGNS), plain.some_boxes(20, 439, 2, 3, plain.SIGNS))
        for one, other in [*pairs, *apart, (late(), early()), (ring(3), ring(3)), (ring(2), ring(3))]:
            self.check(one, other, counts)
        self.assertTrue(len(counts) == 2 * len(WORDS) and min(counts.values()) > 5, counts)

    def test_which_values_are_papers(self):
        counts = {}
        for one, other in plain.some_pairs(12, 443, 2, 4, plain.SIGNS[:2]):
            for claim in plain_judge.claims(one, other, (0, 1, 2)):
                if plain_judge.is_true(claim):
                    for value in changed_parts(paper_for(claim), [0, 1, 2, "a", "x", "y"])[::3]:
                        wanted = plain_judge.is_paper(claim, value)
                        self.assertIs(is_paper(claim, value), wanted, told((claim["claim"], value)))
                        counts[wanted] = counts.get(wanted, 0) + 1
        self.assertTrue(min(counts.values()) > 50, counts)


if __name__ == "__main__":
    unittest.main()
