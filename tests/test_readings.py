"""Points [72], [73], [75]: one muffled box standing for another one, in the four readings."""

import unittest

from aheadbehind.boxes import Box
from aheadbehind.errors import InvalidCalls, InvalidReading, TakenAnswer, TooMany
from aheadbehind.muffled import Muffled, missing, stands
from tests import plain, plain_more
from tests.refusals import Refusals
from tests.values import EqualToAll, many_steps, parts, ring, told, unlike_values, wide, wrong_calls

GO = (0, "go", "ok", 0)
READINGS = ("plain", "firm", "awake", "wary")


def shy():
    """It may fall silent behind any call."""
    return Muffled(2, [0], [GO], [(0, 1)])


def sure():
    """It always answers."""
    return Muffled(1, [0], [GO])


def busy():
    """It may work on without an end."""
    return Muffled(1, [0], [GO], [(0, 0)])


def taken(*answers):
    """A muffled box that has these answers."""
    return Muffled(1, [0], [(0, "go", answer, 0) for answer in answers])


class TestReadings(unittest.TestCase):
    def check(self, one, other, reading, calls, row):
        self.assertIs(stands(one, other, reading, calls), row is None)
        self.assertEqual(missing(one, other, reading, calls), row)
        self.assertIs(stands(calls=tuple(calls), reading=reading, other=other, one=one), row is None)
        self.assertEqual(missing(calls=tuple(calls), reading=reading, other=other, one=one), row)

    def test_plain(self):
        for one in (shy(), sure(), busy()):
            for other in (shy(), sure(), busy()):
                self.check(one, other, "plain", ["go"], None)
                self.check(one, other, "plain", [], None)
        self.check(shy(), Muffled(1, [0], []), "plain", [], [("go", "ok")])

    def test_firm(self):
        self.check(shy(), sure(), "firm", ["go"], [("go", "no")])
        self.check(sure(), shy(), "firm", ["go"], None)
        self.check(shy(), sure(), "firm", [], None)
        self.check(shy(), sure(), "firm", ["up"], None)
        self.check(busy(), sure(), "firm", ["go", "up"], None)
        self.check(sure(), busy(), "firm", ["go"], None)
        self.check(sure(), busy(), "firm", ["go", "up"], [("up", "no")])

    def test_awake(self):
        self.check(busy(), sure(), "awake", ["go"], [("go", "ever")])
        self.check(busy(), shy(), "awake", ["go"], [("go", "ever")])
        self.check(busy(), sure(), "awake", [], None)
        self.check(sure(), busy(), "awake", ["go"], None)
        self.check(shy(), sure(), "awake", ["go"], None)
        self.check(busy(), sure(), "awake", ["up", "go"], [("go", "ever")])

    def test_wary(self):
        self.check(shy(), sure(), "wary", ["go"], [("go", "no")])
        self.check(busy(), sure(), "wary", ["go"], [("go", "ever")])
        self.check(shy(), busy(), "wary", ["go"], [("go", "no")])
        self.check(busy(), shy(), "wary", ["go"], [("go", "ever")])
        self.check(sure(), Muffled(2, [0], [GO], [(0, 1), (1, 0)]), "wary", ["go"], None)
        self.check(sure(), shy(), "wary", ["go"], None)

    def test_behind_a_refused_call_the_box_goes_on(self):
        one = Muffled(3, [0], [(1, "up", "ok", 1), (2, "off", "ok", 2)], [(0, 1), (0, 2)])
        other = Muffled(2, [0, 1], [(0, "up", "ok", 0), (1, "off", "ok", 1)])
        self.check(one, other, "firm", ["up", "off"], None)
        self.check(other, one, "firm", ["up", "off"], None)
        both = Muffled(1, [0], [(0, "up", "ok", 0), (0, "off", "ok", 0)])
        self.check(one, both, "firm", ["up", "off"], [("off", "no")])
        self.check(one, both, "plain", ["up", "off"], None)
        free = Muffled(2, [0], [(0, "up", "ok", 0), (0, "off", "ok", 0), (0, "up", "ok", 1), (0, "off", "ok", 1)], [(0, 1)])
        self.check(both, free, "firm", ["up", "off"], None)

    def test_endless_states_that_are_not_reachable(self):
        far = Muffled(2, [0], [GO], [(1, 1)])
        for reading in READINGS:
            self.check(far, sure(), reading, ["go"], None)
            self.check(sure(), far, reading, ["go"], None)

    def test_what_is_told_is_new_and_what_is_passed_stays(self):
        one, other, calls = shy(), sure(), ["go"]
        missing(one, other, "firm", calls).append("changed")
        self.assertEqual(missing(one, other, "firm", calls), [("go", "no")])
        self.assertEqual((one, other, calls), (shy(), sure(), ["go"]))
        self.assertEqual(parts(one.bare()), parts(Box(2, [0], [GO])))


class TestRefused(Refusals):
    def refuse_both(self, error, values, *given):
        for deed in (stands, missing):
            self.refuse(error, values, deed, *given)
            self.refuse(error, values, deed, **dict(zip(("one", "other", "reading", "calls"), given)))

    def test_readings(self):
        words = ["Firm", "firm ", "plain\n", "fir", "firmly", "PLAIN", "", b"firm", ["firm"], ("firm",), {"firm": 1}]
        for value in unlike_values() + words:
            self.refuse_both(InvalidReading, [value], sure(), sure(), value, ["go"])
            self.refuse_both(InvalidReading, [value], taken("no"), taken("ever"), value, None)

    def test_calls_in_each_reading(self):
        for calls, position in wrong_calls():
            for reading in READINGS:
                self.refuse_both(InvalidCalls, [position], sure(), shy(), reading, calls)
        for reading in READINGS:
            self.refuse_both(InvalidCalls, [0], taken("no", "ever"), taken("no", "ever"), reading, [EqualToAll()])

    def test_taken_answers_of_the_one_then_of_the_other(self):
        for reading, word in (("firm", "no"), ("awake", "ever")):
            self.refuse_both(TakenAnswer, [word], taken(word), sure(), reading, ["go"])
            self.refuse_both(TakenAnswer, [word], sure(), taken(word), reading, [])
        self.refuse_both(TakenAnswer, ["ever"], taken("ever"), taken("no"), "wary", ["go"])
        self.refuse_both(TakenAnswer, ["no"], taken("no"), taken("ever"), "wary", ["go"])
        self.refuse_both(TakenAnswer, ["no"], taken("ever", "no"), taken("ever"), "wary", ["go"])
        self.refuse_both(TakenAnswer, ["ever"], sure(), taken("ever"), "wary", ["go"])

    def test_answers_that_a_reading_does_not_need_may_be_there(self):
        for reading, word in (("firm", "ever"), ("awake", "no"), ("plain", "no"), ("plain", "ever")):
            self.assertIs(stands(taken(word), taken(word), reading, ["go"]), True)
        self.assertIs(stands(taken("no"), sure(), "plain", ["go"]), False)

    def test_the_box_made_of_the_other_is_limited(self):
        six = Muffled(6, [0], many_steps(6))
        seven, eight = (Muffled.of(ring(states), []) for states in (7, 8))
        for reading in READINGS:
            stands(eight, six, reading, ["go"])
            missing(Muffled.of(wide(30, [0], [(0, "go", "ok", 29)]), []), six, reading, [])
            self.refuse_both(TooMany, ["states", 7], sure(), eight, reading, ["go"])
        for reading in ("plain", "firm"):
            self.assertIs(stands(sure(), seven, reading, ["go"]), True)
        for reading in ("awake", "wary"):
            self.refuse_both(TooMany, ["states", 7], sure(), seven, reading, ["go"])
            self.assertIs(stands(sure(), Muffled.of(ring(6), []), reading, ["go"]), True)

    def test_too_many_stands_behind_what_is_taken(self):
        wrong = Muffled.of(wide(8, [0], [(0, "go", "no", 1), (0, "go", "ever", 1)]), [])
        self.refuse_both(TakenAnswer, ["no"], sure(), wrong, "firm", ["go"])
        self.refuse_both(TakenAnswer, ["ever"], sure(), wrong, "awake", ["go"])
        self.refuse_both(TooMany, ["states", 7], sure(), wrong, "plain", ["go"])
        self.refuse_both(InvalidCalls, [0], sure(), wrong, "plain", [7])
        self.refuse_both(InvalidReading, [None], sure(), wrong, None, ["go"])


class TestFacts(unittest.TestCase):
    """Against a plain reckoning over many small muffled boxes."""

    def test_missing_rows(self):
        counts = {}
        for first, second in plain_more.some_pairs_of_parts(160, 227, 3, 5, 3):
            one, other = Muffled(*first), Muffled(*second)
            for reading in READINGS:
                for calls in (["a"], ["b", "a"], []):
                    told_one = plain_more.box_of(plain_more.made(first, reading, calls))
                    told_other = plain_more.box_of(plain_more.made(second, reading, calls))
                    row = missing(one, other, reading, calls)
                    self.assertIs(row is None, plain_more.stands(told_one, told_other))
                    self.assertIs(stands(one, other, reading, calls), row is None)
                    if row is None or len(row) <= 3:
                        self.assertEqual(plain.first_missing(told_one, told_other, 3), row, told((first, second, reading)))
                    counts[reading, row is None] = counts.get((reading, row is None), 0) + 1
        self.assertTrue(len(counts) == 8 and min(counts.values()) > 50, counts)

    def test_with_some_calls_hidden_what_stands_for_another_one_still_does(self):
        kept = 0
        for one, other in plain.some_pairs(300, 229, 4, 8, plain.SIGNS):
            if plain_more.stands(one, other):
                for calls in (["a"], ["b"], ["b", "a"], ["c"], []):
                    self.assertIs(stands(Muffled.of(one, calls), Muffled.of(other, calls), "plain", ["a"]), True)
                    kept += 1
        self.assertTrue(kept > 300, kept)

    def test_in_another_reading_it_need_not(self):
        silent, lively = Box(2, [0], [(0, "a", "x", 1)]), Box(2, [0], [(0, "a", "x", 1), (1, "a", "x", 1)])
        self.assertTrue(plain_more.stands(silent, lively))
        self.assertIs(stands(Muffled.of(silent, ["a"]), Muffled.of(lively, ["a"]), "plain", ["b"]), True)
        self.assertIs(stands(Muffled.of(silent, ["a"]), Muffled.of(lively, ["a"]), "firm", ["b"]), False)


if __name__ == "__main__":
    unittest.main()
