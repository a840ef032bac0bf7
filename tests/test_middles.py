"""Points [61] and [62]: middles, the middle of a fan, and the fan of a middle."""

import unittest

from aheadbehind.boxes import Box
from aheadbehind.errors import InvalidFan, InvalidKind, InvalidMiddle
from aheadbehind.fans import Fan, Guessing, Remembering
from aheadbehind.matchings import Backward, Forward, Matching
from aheadbehind.middles import fan_of, is_middle, middle
from tests import plain, plain_fans
from tests.refusals import Refusals
from tests.values import EqualToAll, early, late, parts, ring, told, unlike_values, wide, wrong_kinds

KINDS = {"remembering": Remembering, "guessing": Guessing}
BACK = [(0, 0), (1, 1), (1, 2), (2, 3)]
SAME = [(0, 0), (1, 1), (2, 2)]
GUESS = {0: [(0,)], 1: [(1,), (2,)], 2: [(3,)]}


def remembered():
    """The remembering middle of late and early that has the box late between."""
    return late(), list(SAME), list(BACK)


def guessed():
    """The guessing middle of late and early that has the box early between."""
    return early(), list(BACK), [(0, 0), (1, 1), (2, 2), (3, 3)]


class TestMiddle(Refusals):
    def test_of_a_remembering_fan(self):
        found = middle(Remembering.thin(late(), early()))
        self.assertIs(type(found), tuple)
        self.assertEqual([type(part) for part in found], [Box, list, list])
        self.assertEqual(found, remembered())

    def test_of_a_guessing_fan(self):
        self.assertEqual(middle(fan=Guessing(late(), early(), GUESS)), guessed())

    def test_states_in_their_sorted_sequence_and_those_that_are_not_reachable(self):
        fan = Remembering(late(), early(), {2: [(3,), (0, 3)], 1: [(1, 2)], 0: [(0,)]})
        box, pairs, further = middle(fan)
        steps = [(0, "flip", "ok", 1), (1, "look", "head", 3), (1, "look", "tail", 3)]
        self.assertEqual(box, Box(4, [0], steps))
        self.assertEqual((pairs, further), ([(0, 0), (1, 1), (2, 2), (2, 3)], [(0, 0), (1, 1), (1, 2), (3, 3)]))

    def test_starts_remembering_those_whose_set_has_starts_alone(self):
        one, other = Box(2, [1]), Box(3, [0, 2])
        fan = Remembering(one, other, {1: [(0, 1), (0, 2), (1,), (2,)]})
        self.assertEqual(middle(fan), (Box(4, [1, 3]), [(1, 0), (1, 1), (1, 2), (1, 3)], [(1, 0), (1, 2), (3, 2)]))

    def test_starts_guessing_all_of_starts(self):
        one, other = Box(2, [1]), Box(3, [0, 2])
        fan = Guessing(one, other, {1: [(0, 1), (0, 2), (2,)]})
        wanted = Box(3, [0, 1, 2]), [(1, 0), (1, 1), (1, 2)], [(0, 0), (0, 1), (1, 0), (1, 2), (2, 2)]
        self.assertEqual(middle(fan), wanted)

    def test_guessing_steps_lead_to_all_sets_that_the_first_one_lies_ahead_of(self):
        one = Box(1, [0], [(0, "go", "ok", 0)])
        other = Box(2, [0, 1], [(0, "go", "ok", 0), (1, "go", "ok", 0), (1, "go", "ok", 1)])
        box, _, _ = middle(Guessing(one, other, {0: [(0,), (0, 1), (1,)]}))
        lead = [(0, 0), (0, 1), (1, 0), (1, 1), (2, 0), (2, 1), (2, 2)]
        self.assertEqual(box, Box(3, [0, 1, 2], [(a, "go", "ok", b) for a, b in lead]))
        box, _, _ = middle(Remembering(one, other, {0: [(0,), (0, 1), (1,)]}))
        lead = [(0, 0), (1, 0), (1, 1), (1, 2), (2, 0), (2, 1), (2, 2)]
        self.assertEqual(box, Box(3, [0, 1, 2], [(a, "go", "ok", b) for a, b in lead]))

    def test_more_than_six_states_and_24_steps(self):
        free = Box(3, [0, 1, 2], [(a, "go", "ok", b) for a in range(3) for b in range(3)])
        for kind in KINDS.values():
            fan = kind.greatest(free, free, girth=3)
            box, pairs, _ = middle(fan)
            self.assertEqual((box.states, len(box), len(pairs)), (21, 21 * 21, 21))
            self.assertIs(is_middle(free, free, kind.KIND, middle(fan)), True)

    def test_values_of_many_kinds(self):
        wrong = unlike_values() + [Fan(late(), early(), GUESS), GUESS, Matching(late(), late(), SAME), Remembering]
        for value in wrong + [Forward(late(), late(), SAME), Backward(late(), late(), SAME), late()]:
            self.refuse(InvalidFan, [value], middle, value)
            self.refuse(InvalidFan, [value], middle, fan=value)

    def test_what_is_told_is_new(self):
        fan = Remembering.thin(late(), early())
        _, pairs, further = middle(fan)
        pairs.clear()
        further.clear()
        self.assertEqual(middle(fan), remembered())
        self.assertEqual((fan, parts(fan.one)), (Remembering.thin(late(), early()), parts(late())))


class TestIsMiddle(unittest.TestCase):
    def check(self, value, wanted, kind="remembering", one=late(), other=early()):
        self.assertIs(is_middle(one, other, kind, value), wanted, told(value))

    def test_of_both_kinds(self):
        self.check(remembered(), True)
        self.check(guessed(), True, "guessing")
        self.check((late(), SAME, SAME), True, "guessing", late(), late())
        self.check((late(), SAME, SAME), True, "remembering", late(), late())
        self.check(guessed(), False)
        self.check(remembered(), False, "guessing")
        self.assertIs(is_middle(value=remembered(), kind="remembering", other=early(), one=late()), True)

    def test_lists_in_any_sequence_and_tuples(self):
        self.check((late(), SAME[::-1], BACK[::-1]), True)
        self.check((late(), tuple(SAME), tuple(BACK)), True)

    def test_pairs_that_are_no_matching(self):
        self.check((late(), SAME[1:], BACK), False)
        self.check((late(), SAME, BACK[1:]), False)
        self.check((late(), [(0, 1), *SAME], BACK), False)
        self.check((late(), SAME, BACK + [(0, 3)]), False)
        self.check((late(), [], BACK), False)
        self.check((late(), SAME, []), False)
        self.check((late(), SAME + [(2, 0)], BACK), True)

    def test_equal_elements(self):
        self.check((late(), SAME + SAME[:1], BACK), False)
        self.check((late(), SAME, BACK + BACK[:1]), False)

    def test_a_box_between_with_states_that_are_not_reachable(self):
        box = Box(4, [0], late().steps() + [(3, "go", "ok", 0)])
        self.check((box, SAME, BACK), True)
        self.check((box, SAME + [(2, 3)], BACK), True)
        self.check((box, SAME + [(1, 3)], BACK), False)
        self.check((box, SAME, BACK + [(3, 0)]), False)

    def test_a_box_between_with_more_than_six_states(self):
        far = [(state, state % 2) for state in range(30)]
        near = [(0, state) for state in range(30)]
        self.check((ring(30), near, far), True, "remembering", ring(1), ring(2))
        self.check((ring(30), near, far), False, "guessing", ring(1), ring(2))
        for kind in KINDS:
            self.check((ring(30), [(state, state) for state in range(30)], far), True, kind, ring(30), ring(2))
        self.check((wide(20), [(0, 0)], [(0, 0)]), True, "guessing", Box(1, [0]), Box(1, [0]))

    def test_values_of_many_kinds(self):
        for kind in KINDS:
            wrong = [list(remembered()), remembered()[:2], (*remembered(), []), (early(), [], []), remembered()[::-1]]
            for value in unlike_values() + wrong:
                self.check(value, False, kind)
        for value in unlike_values():
            self.check((value, SAME, BACK), False)
            self.check((late(), value, BACK), False)
            self.check((late(), SAME, value), False)
            for place in range(4):
                self.check((late(), SAME[:place] + [value] + SAME[place:], BACK), False)
                self.check((late(), SAME, BACK[:place] + [value] + BACK[place:]), False)

    def test_pairs_in_other_forms(self):
        for wrong in ((False, 0), (0, False), [0, 0], (0,), (0, 0, 0), ("0", 0), (EqualToAll(), 0), (0, EqualToAll()),
                      (3, 0), (0, -1), (-1, 0), (0, 7)):
            self.check((late(), [wrong] + SAME[1:], BACK), False)
            self.check((late(), SAME + [wrong], BACK), False)
            self.check((late(), SAME, [wrong] + BACK[1:]), False)
            self.check((late(), SAME, BACK + [wrong]), False)


class TestFanOf(Refusals):
    def test_the_sets_of_partners_of_partners(self):
        found = fan_of(late(), early(), "remembering", remembered())
        self.assertEqual(found, Remembering.thin(late(), early()))
        found = fan_of(value=guessed(), kind="guessing", other=early(), one=late())
        self.assertEqual(found, Guessing(late(), early(), GUESS))

    def test_states_between_that_are_not_reachable_play_no_part(self):
        box = Box(4, [0], late().steps() + [(3, "go", "ok", 0)])
        found = fan_of(late(), early(), "remembering", (box, SAME + [(2, 3)], BACK))
        self.assertEqual(found, Remembering.thin(late(), early()))

    def test_equal_sets_are_one(self):
        one, box = Box(3, [0, 1], [(2, "go", "ok", 0)]), Box(4, [0, 1, 3])
        value = (box, [(0, 1), (1, 3), (0, 0), (0, 3)], [(0, 1), (3, 0), (1, 1), (3, 1)])
        found = fan_of(one, Box(2, [0, 1]), "remembering", value)
        self.assertEqual(found.sets(), {0: [(0, 1), (1,)], 1: [(0, 1)]})
        one, box = Box(2, [0], [(0, "go", "ok", 1)]), Box(2, [0], [(0, "go", "ok", 0), (1, "go", "ok", 1)])
        found = fan_of(one, ring(1), "remembering", (box, [(0, 0), (1, 0), (1, 1)], [(0, 0)]))
        self.assertEqual(found.sets(), {0: [(0,)], 1: [(0,)]})

    def test_lists_in_any_sequence(self):
        for kind, value in (("remembering", remembered()), ("guessing", guessed())):
            box, pairs, further = value
            changed = box, tuple(pairs[::-1]), further[2:] + further[:2]
            self.assertEqual(fan_of(late(), early(), kind, changed), fan_of(late(), early(), kind, value))
            self.assertEqual(value, remembered() if kind == "remembering" else guessed())

    def test_values_that_are_no_middles(self):
        values = unlike_values() + [list(remembered()), guessed(), (late(), SAME, BACK[1:]), (late(), SAME, BACK, None)]
        for value in values:
            self.refuse(InvalidMiddle, [value], fan_of, late(), early(), "remembering", value)
        for value in unlike_values() + [remembered()]:
            self.refuse(InvalidMiddle, [value], fan_of, late(), early(), "guessing", value=value)

    def test_kinds(self):
        for value in wrong_kinds():
            self.refuse(InvalidKind, [value], is_middle, late(), early(), value, remembered())
            self.refuse(InvalidKind, [value], fan_of, late(), early(), value, None)


class TestFacts(unittest.TestCase):
    """Against a plain reckoning over many small boxes."""

    def test_middles_of_fans(self):
        for one, other in plain.some_pairs(40, 97, 2, 5, plain.SIGNS[:2]):
            sets = plain_fans.all_sets(other.states, 2)
            for word, kind in KINDS.items():
                for fan in plain_fans.all_fans(one, sets):
                    if plain_fans.is_fan(word, one, other, fan):
                        self.compare(word, kind(one, other, fan), fan)

    def compare(self, word, fan, sets):
        states, starts, steps, pairs, places = plain_fans.middle(word, fan.one, fan.other, sets)
        box, found, further = middle(fan)
        self.assertEqual((box.states, box.starts(), box.steps(), found), (states, starts, steps, pairs))
        self.assertEqual(further, [(number, far) for number in plain.reached(box) for far in places[number][1]])
        first, second = (plain.is_forward, plain.is_backward)[::1 if word == "remembering" else -1]
        self.assertTrue(first(fan.one, box, found) and second(box, fan.other, further))
        self.assertIs(is_middle(fan.one, fan.other, word, (box, found, further)), True)
        less = {state: [chosen for number, (near, chosen) in enumerate(places) if near == state
                        and number in plain.reached(box)] for state in sets}
        self.assertEqual(fan_of(fan.one, fan.other, word, (box, found, further)).sets(), less)

    def test_which_values_are_middles(self):
        counts = {True: 0, False: 0}
        boxes = plain.some_boxes(40, 101, 2, 4, plain.SIGNS[:1])
        for number, (one, other) in enumerate(plain.some_pairs(40, 103, 2, 4, plain.SIGNS[:1])):
            for box in (boxes[number], one, other):
                for pairs in plain.parts_of(plain.all_pairs(one, box)):
                    for further in plain.parts_of(plain.all_pairs(box, other))[::2]:
                        for word, first, second in (("remembering", plain.is_forward, plain.is_backward),
                                                    ("guessing", plain.is_backward, plain.is_forward)):
                            wanted = first(one, box, pairs) and second(box, other, further)
                            self.assertIs(is_middle(one, other, word, (box, pairs, further)), wanted)
                            counts[wanted] += 1
        self.assertTrue(min(counts.values()) > 100, counts)


if __name__ == "__main__":
    unittest.main()
