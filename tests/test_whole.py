"""Point [4] and the program as a whole: what one part tells fits what the other parts tell."""

import random
import unittest

from aheadbehind.boxes import Box
from aheadbehind.changes import fewest_left_out, leave_outs
from aheadbehind.desk import Desk
from aheadbehind.errors import NotStanding, Untrue
from aheadbehind.families import family_box, least_families
from aheadbehind.fans import Guessing, Remembering
from aheadbehind.forms import classes, form
from aheadbehind.judge import is_paper, is_true, paper_for
from aheadbehind.listener import Listener
from aheadbehind.looks import foreseeing, recalling
from aheadbehind.matchings import Backward, Forward
from aheadbehind.middles import fan_of, is_middle, middle
from aheadbehind.muffled import Muffled, missing, stands
from aheadbehind.parts import room
from aheadbehind.rows import ahead, behind, gives, next_signs, row_count, rows, walk
from aheadbehind.standing import are_alike, is_missing, missing_row, parting_row, stands_for
from aheadbehind.texts import packed, read, text_of, unpacked
from aheadbehind.together import all_in_step, beside, either, in_step, named
from tests import plain, plain_judge, plain_more
from tests.values import early, late

KINDS = {"remembering": Remembering, "guessing": Guessing}


def some_pairs():
    """Pairs of small boxes, some that stand for one another and some that do not."""
    return plain.some_pairs(60, 503, 3, 6, plain.SIGNS) + [(late(), early()), (early(), late())]


def commands_of(name, box):
    """Commands that make a box whose start is the state 0."""
    return [f"new {name} {box.states}"] + [f"add {name} {a} {call} {answer} {b}" for a, call, answer, b in box]


class TestTexts(unittest.TestCase):
    def test_texts_that_are_told_are_read_back(self):
        for one, other in some_pairs():
            made = [one.turned(), one.part(), one.numbered(list(range(one.states))[::-1]), Box.of_row(one.signs()), form(one),
                    either(one, other), in_step(one, other), Muffled.of(one, ["a"]), Muffled.of(other, []),
                    Muffled(one.states, one.starts(), one.steps(), [(0, 0)]), Muffled.of(one, ["b"]).plain()]
            for value in [one, other, *made]:
                bare = value.bare() if isinstance(value, Muffled) else value
                if bare.states <= 6 and len(bare) <= 24:
                    self.assertEqual(read(text_of(value)), value)
                    self.assertEqual(unpacked(packed(value)), value)
                    self.assertEqual(repr(read(text_of(value))), repr(value))

    def test_boxes_have_one_text_exactly_if_they_are_equal(self):
        boxes = [box for pair in some_pairs() for box in pair]
        for one in boxes[::3]:
            for other in boxes[::2]:
                self.assertIs(text_of(one) == text_of(other), one == other)
                self.assertIs(text_of(form(one)) == text_of(form(other)), are_alike(one, other))


class TestPapers(unittest.TestCase):
    def test_papers_that_are_made_are_accepted_and_claims_that_are_not_true_have_none(self):
        counts = {True: 0, False: 0}
        for one, other in some_pairs()[::2]:
            for claim in plain_judge.claims(one, other, (0, 1, 2)):
                truth = is_true(claim)
                if truth:
                    self.assertIs(is_paper(claim, paper_for(claim)), True)
                else:
                    with self.assertRaises(Untrue):
                        paper_for(claim)
                counts[truth] += 1
        self.assertTrue(min(counts.values()) > 200)

    def test_just_one_of_two_claims_is_true_and_has_a_paper(self):
        against = {"stands": "missing", "forward": "no forward", "backward": "no backward", "girth": "wider",
                   "alike": "apart", "fewer": "more"}
        for one, other in some_pairs():
            for claim in plain_judge.claims(one, other, (0, 1, 2)):
                if claim["claim"] in against:
                    opposite = {**claim, "claim": against[claim["claim"]]}
                    self.assertIs(is_true(claim), not is_true(opposite))

    def test_what_the_earlier_stages_tell_are_papers(self):
        for one, other in some_pairs():
            told = {"one": one, "other": other}
            row = missing_row(one, other)
            if row is None:
                for word, kind in KINDS.items():
                    for fan in (kind.built(one, other), kind.thin(one, other)):
                        self.assertTrue(is_paper({"claim": "stands", **told}, (word, fan.sets())))
                        self.assertTrue(is_paper({"claim": "girth", **told, "kind": word, "number": fan.girth}, fan.sets()))
                        between = middle(fan)
                        self.assertIs(is_paper({"claim": "between", **told, "kind": word, "number": 3}, between),
                                      between[0].states <= 3)
                    least = kind.least_girth(one, other)
                    for girth in range(1, other.states + 1):
                        claim = {"claim": "girth", **told, "kind": word, "number": girth}
                        self.assertIs(is_true(claim), girth >= least)
                        falls = kind.falls(one, other, girth=girth)
                        self.assertIs(is_paper({**claim, "claim": "wider"}, falls), girth < least)
            else:
                self.assertTrue(is_paper({"claim": "missing", **told}, walk(one, row)))
                self.assertTrue(is_paper({"claim": "apart", **told}, row))
                for steps in leave_outs(one, other):
                    fan = Remembering.thin(one.without(steps), other)
                    claim = {"claim": "fewer", **told, "number": fewest_left_out(one, other)}
                    self.assertTrue(is_paper(claim, (steps, fan.sets())))

    def test_boxes_that_the_package_made(self):
        for one, other in some_pairs()[:20]:
            large = all_in_step(one, one, one)
            for claim in ({"claim": "stands", "one": large, "other": one}, {"claim": "forward", "one": large, "other": large}):
                self.assertIs(is_true(claim), True)
                self.assertIs(is_paper(claim, paper_for(claim)), True)


class TestDesk(unittest.TestCase):
    def test_the_desk_answers_as_the_functions_do(self):
        chance = random.Random(509)
        for one, other in plain.some_pairs(60, 521, 4, 8, plain.SIGNS) + [(late(), early())]:
            one, other = one.with_starts([0]), other.with_starts([0])
            desk = Desk()
            answers = desk.do_all(*commands_of("one", one), *commands_of("other", other))
            self.assertEqual(answers, ["ok"] + [str(k + 1) for k in range(len(one))]
                             + ["ok"] + [str(k + 1) for k in range(len(other))])
            self.assertEqual((desk["one"], desk["other"]), (one, other))
            row = missing_row(one, other)
            told = " ".join(f"{call} {answer}" for call, answer in row or [])
            self.assertEqual(desk("stands one other"), "yes" if row is None else "no " + told)
            for word, kind in KINDS.items():
                try:
                    girth = str(kind.least_girth(one, other))
                except NotStanding:
                    girth = "-"
                self.assertEqual(desk(f"girth {word} one other"), girth)
            self.assertEqual(desk("alike one other"), "yes" if are_alike(one, other) else "no")
            for size in range(5):
                signs = [chance.choice(plain.SIGNS) for _ in range(size)]
                line = " ".join(["gives one", *[f"{call} {answer}" for call, answer in signs]])
                self.assertEqual(desk(line), "yes" if gives(one, signs) else "no")
            log = desk.log()
            self.assertEqual([desk("undo") for _ in log], log[::-1])
            self.assertEqual((desk.names(), desk.log()), ([], []))

    def test_boxes_that_are_put_and_steps_that_are_cut(self):
        for one, other in some_pairs():
            desk = Desk()
            desk["a"], desk["b"] = one, read(text_of(other))
            self.assertEqual(desk("stands a b"), "yes" if stands_for(one, other) else
                             " ".join(["no"] + [" ".join(sign) for sign in missing_row(one, other)]))
            for steps in leave_outs(one, other)[:2]:
                lines = [f"cut a {a} {call} {answer} {b}" for a, call, answer, b in steps]
                self.assertEqual(desk.do_all(*lines, "stands a b")[-1], "yes")
                self.assertEqual(desk["a"], one.without(steps))
                for line in lines[::-1]:
                    self.assertEqual(desk("undo"), line)
                self.assertEqual(desk["a"], one)


class TestListener(unittest.TestCase):
    def test_a_listener_knows_what_rows_tell(self):
        for box, _ in some_pairs():
            ear = Listener(box)
            for row in plain.rows_up_to(box, 3):
                ear.begin(row)
                self.assertEqual(ear.now(), behind(box, row))
                self.assertEqual(ear.at(0), [state for state in ahead(box, row) if state in box.starts()])
                signs = next_signs(box, row)
                self.assertEqual([(call, answer) for call in box.calls() for answer in ear.answers(call)], signs)
                for sign in signs:
                    self.assertEqual(ear.tried(lambda held: held(*sign)), behind(box, [*row, sign]))
                self.assertEqual(ear.row, list(row))

    def test_a_listener_hears_just_the_rows_that_the_box_gives(self):
        for one, other in some_pairs():
            row = missing_row(one, other)
            if row:
                ear = Listener(other)
                for sign in row[:-1]:
                    ear += sign
                self.assertNotIn(row[-1][1], ear.answers(row[-1][0]))
                self.assertEqual(Listener(one, row).row, row)


class TestGuarantees(unittest.TestCase):
    def test_a_fan_or_a_row(self):
        counts = {True: 0, False: 0}
        for one, other in some_pairs():
            wanted = plain_more.stands(one, other)
            counts[wanted] += 1
            self.assertIs(stands_for(one, other), wanted)
            for kind in KINDS.values():
                if wanted:
                    self.assertTrue(len(kind.built(one, other)) > 0)
                    self.assertEqual(kind.falls(one, other, girth=other.states), None)
                else:
                    with self.assertRaises(NotStanding) as caught:
                        kind.built(one, other)
                    self.assertTrue(is_missing(one, other, caught.exception.value))
                    self.assertTrue(kind.are_falls(one, other, kind.falls(one, other, girth=other.states), girth=other.states))
        self.assertTrue(min(counts.values()) > 15, counts)

    def test_one_notion(self):
        for one, other in some_pairs():
            for matching, single, partner in ((Forward, Remembering, Guessing), (Backward, Guessing, Remembering)):
                if is_true({"claim": matching.__name__.lower(), "one": one, "other": other}):
                    found = matching.greatest(one, other)
                    self.assertEqual(single.of_singles(found).girth, 1)
                    self.assertEqual(len(partner.of_partners(found)), len(one.reachable()))

    def test_between(self):
        for one, other in some_pairs():
            if stands_for(one, other):
                for word, kind in KINDS.items():
                    fan = kind.thin(one, other)
                    self.assertTrue(is_middle(one, other, word, middle(fan)))
                    self.assertIs(type(fan_of(one, other, word, middle(fan))), kind)
                    for family in least_families(one, other, word):
                        box, pairs, further = paper_for(
                            {"claim": "between", "one": one, "other": other, "kind": word, "number": len(family)})
                        self.assertEqual(box.states, family_box(other, word, family).states)
                        self.assertIs(is_middle(one, other, word, (box, pairs, further)), True)

    def test_kept(self):
        names = {"a": "c", "b": "d"}
        pairs = [pair for pair in some_pairs() if stands_for(*pair)]
        for one, other in pairs:
            for further, last in pairs[::9]:
                self.assertTrue(stands(*[Muffled(*self.told(box)) for box in (one, other)], "plain", []))
                self.assertTrue(plain_more.stands(in_step(one, further), in_step(other, last)))
                self.assertTrue(plain_more.stands(either(one, further), either(other, last)))
                calls = [{call: names.get(call, call) for call in box.calls()} for box in (further, last)]
                first, second = named(further, calls[0]), named(last, calls[1])
                if not set(first.calls() + second.calls()) & set(one.calls() + other.calls()):
                    self.assertTrue(plain_more.stands(beside(one, first), beside(other, second)))
            for calls in (["a"], ["b"], ["a", "b"]):
                self.assertEqual(missing(Muffled.of(one, calls), Muffled.of(other, calls), "plain", []), None)

    def told(self, box):
        return box.states, box.starts(), box.steps()

    def test_alike(self):
        boxes = [box for pair in some_pairs()[:30] for box in pair]
        for group in classes(boxes):
            for position in group:
                first = boxes[group[0]]
                self.assertEqual(form(boxes[position]), form(first))
                self.assertEqual(parting_row(boxes[position], first), None)
                self.assertTrue(is_true({"claim": "alike", "one": boxes[position], "other": first}))
                self.assertEqual(row_count(boxes[position], 9), row_count(first, 9))

    def test_looks_and_rooms_are_boxes_like_others(self):
        for one, other in some_pairs()[::3]:
            for number in range(3):
                for look in (recalling, foreseeing):
                    self.assertTrue(plain_more.stands(look(one, number)[0], one))
                    self.assertTrue(plain_more.stands(one, look(one, number)[0]))
            if one.states <= 3:
                free = room(one, other, plain.SIGNS)
                self.assertTrue(stands_for(in_step(one, free), other))
                self.assertEqual([row for _, row in zip(range(1), rows(free))], [[]])


if __name__ == "__main__":
    unittest.main()
