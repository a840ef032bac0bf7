"""Points [74], [75]: boxes beside one another, in step, either of both, and named otherwise."""

import unittest

from aheadbehind.boxes import Box
from aheadbehind.errors import InvalidNames, SharedCall
from aheadbehind.standing import stands_for
from aheadbehind.together import all_in_step, beside, either, in_step, named
from tests import plain, plain_more
from tests.refusals import Refusals
from tests.values import EqualToAll, early, late, parts, ring, unlike_values, wide

A = [("a", "x"), ("a", "y")]
B = [("b", "x"), ("c", "x")]


def free(states, call):
    """A box that goes from each state to each."""
    return wide(states, [states - 1], [(a, call, "ok", b) for a in range(states) for b in range(states)])


class TestBeside(Refusals):
    def test_by_turns(self):
        found = beside(Box(1, [0], [(0, "a", "r", 0)]), Box(2, [0], [(0, "b", "r", 1)]))
        self.assertEqual(found, Box(2, [0], [(0, "a", "r", 0), (0, "b", "r", 1), (1, "a", "r", 1)]))
        self.assertIs(type(found), Box)

    def test_the_number_of_a_state_is_the_first_ones_times_the_states_of_the_second_plus_the_seconds(self):
        found = beside(other=Box(3, [2], [(1, "b", "r", 2)]), one=Box(2, [1], [(0, "a", "r", 1)]))
        steps = [(0, "a", "r", 3), (1, "a", "r", 4), (2, "a", "r", 5), (1, "b", "r", 2), (4, "b", "r", 5)]
        self.assertEqual(found, Box(6, [5], steps))

    def test_starts_of_both(self):
        self.assertEqual(beside(Box(3, [2, 0]), Box(2, [0, 1])), Box(6, [0, 1, 4, 5]))
        self.assertEqual(beside(Box(3, [1, 0]), Box(2, [1])), Box(6, [1, 3]))

    def test_a_common_call(self):
        one = Box(1, [0], [(0, "c", "x", 0), (0, "b", "x", 0), (0, "a", "x", 0)])
        self.refuse(SharedCall, ["b"], beside, one, Box(1, [0], [(0, "d", "x", 0), (0, "c", "x", 0), (0, "b", "x", 0)]))
        self.refuse(SharedCall, ["a"], beside, other=Box(2, [0], [(1, "a", "other", 1)]), one=one)
        self.refuse(SharedCall, ["flip"], beside, late(), late())
        self.refuse(SharedCall, ["go"], beside, ring(30), ring(20))

    def test_answers_may_be_common(self):
        self.assertEqual(len(beside(Box(1, [0], [(0, "a", "x", 0)]), Box(1, [0], [(0, "x", "x", 0)]))), 2)

    def test_more_than_six_states_and_24_steps(self):
        found = beside(free(6, "go"), free(5, "up"))
        self.assertEqual((found.states, found.starts(), len(found)), (30, [29], 36 * 5 + 25 * 6))
        self.assertEqual(beside(found, ring(7).with_starts([3]).without(ring(7).steps())).starts(), [206])


class TestInStep(unittest.TestCase):
    def test_each_sign_is_done_by_both(self):
        one = Box(2, [0], [(0, "go", "ok", 1), (1, "go", "no", 0), (0, "up", "ok", 0)])
        other = Box(3, [1], [(1, "go", "ok", 2), (1, "go", "ok", 0), (2, "go", "no", 2), (0, "up", "no", 0)])
        steps = [(1, "go", "ok", 3), (1, "go", "ok", 5), (5, "go", "no", 2)]
        self.assertEqual(in_step(one, other), Box(6, [1], steps))
        self.assertEqual(in_step(other=other, one=one), Box(6, [1], steps))
        self.assertIs(type(in_step(one, other)), Box)

    def test_starts_of_both(self):
        self.assertEqual(in_step(Box(3, [2, 0]), Box(2, [0, 1])), Box(6, [0, 1, 4, 5]))

    def test_nothing_in_common(self):
        self.assertEqual(in_step(Box(1, [0], [(0, "a", "x", 0)]), Box(1, [0], [(0, "a", "y", 0)])), Box(1, [0]))

    def test_more_than_six_states_and_24_steps(self):
        found = in_step(free(6, "go"), free(5, "go"))
        self.assertEqual((found.states, len(found)), (30, 900))
        self.assertEqual(in_step(ring(30), ring(7)).part().states, 210)


class TestEither(unittest.TestCase):
    def test_the_second_behind_the_first(self):
        found = either(Box(2, [1, 0], [(0, "go", "ok", 1)]), Box(3, [2], [(2, "go", "no", 0), (1, "go", "ok", 1)]))
        self.assertEqual(found, Box(5, [0, 1, 4], [(0, "go", "ok", 1), (4, "go", "no", 2), (3, "go", "ok", 3)]))
        self.assertEqual(either(other=Box(2, [0]), one=Box(1, [0])), Box(3, [0, 1]))
        self.assertIs(type(found), Box)

    def test_more_than_six_states_and_24_steps(self):
        found = either(free(6, "go"), free(5, "go"))
        self.assertEqual((found.states, found.starts(), len(found)), (11, [5, 10], 61))

    def test_a_box_with_itself(self):
        self.assertEqual(either(late(), late()).starts(), [0, 3])


class TestNamed(Refusals):
    def test_each_call_becomes_another_one(self):
        steps = [(0, "throw", "ok", 1), (1, "see", "tail", 2), (1, "see", "head", 2)]
        self.assertEqual(named(late(), {"flip": "throw", "look": "see"}), Box(3, [0], steps))
        self.assertEqual(named(names={"look": "see", "flip": "throw"}, box=late()), Box(3, [0], steps))

    def test_names_may_be_exchanged_and_kept(self):
        steps = [(0, "look", "ok", 1), (1, "flip", "tail", 2), (1, "flip", "head", 2)]
        self.assertEqual(named(late(), {"flip": "look", "look": "flip"}), Box(3, [0], steps))
        self.assertEqual(named(late(), {"flip": "flip", "look": "look"}), late())

    def test_steps_that_become_equal_are_one(self):
        box = Box(2, [0], [(0, "a", "x", 1), (0, "b", "x", 1), (0, "b", "y", 1), (1, "a", "x", 0)])
        steps = [(0, "c", "x", 1), (0, "c", "y", 1), (1, "c", "x", 0)]
        self.assertEqual(named(box, {"a": "c", "b": "c"}), Box(2, [0], steps))
        self.assertEqual(len(named(box, {"a": "b", "b": "b"})), 3)

    def test_a_box_without_calls(self):
        self.assertEqual(named(Box(2, [1]), {}), Box(2, [1]))
        for value in ({"go": "up"}, [], None, {"": "go"}):
            self.refuse(InvalidNames, [value], named, Box(2, [1]), value)

    def test_more_than_six_states_and_24_steps(self):
        self.assertEqual(named(free(9, "go"), {"go": "up"}), free(9, "up"))

    def test_values_of_many_kinds(self):
        for value in unlike_values():
            self.refuse(InvalidNames, [value], named, late(), value)
            self.refuse(InvalidNames, [value], named, box=late(), names=value)

    def test_dicts_that_are_wrong(self):
        good = {"flip": "a", "look": "b"}
        for wrong in ({"flip": "a"}, {**good, "go": "c"}, {**good, 1: "c"}, {**good, None: "c"}, {**good, "": "c"}, {},
                      {"flip": "a", "Look": "b"}, {"flip": "a", b"look": "b"}, {"flip": "a", EqualToAll(): "b"},
                      {"flip": "a", ("look",): "b"}, {"a": "flip", "b": "look"}, [("flip", "a"), ("look", "b")]):
            self.refuse(InvalidNames, [wrong], named, late(), wrong)
        for value in unlike_values():
            if value not in ("a", "go", "eightlet") or isinstance(value, EqualToAll):
                for key in good:
                    wrong = {**good, key: value}
                    self.refuse(InvalidNames, [wrong], named, late(), wrong)

    def test_the_names_do_not_change(self):
        names = {"look": "see", "flip": "throw"}
        box = late()
        found = named(box, names)
        names.clear()
        self.assertEqual(found.calls(), ["see", "throw"])
        self.assertEqual(parts(box), parts(late()))


class TestAllInStep(unittest.TestCase):
    def test_one_box_and_several(self):
        self.assertEqual(all_in_step(early()), early())
        self.assertEqual(all_in_step(early(), late()), in_step(early(), late()))
        boxes = [Box(2, [0, 1], [(0, "go", "ok", 1), (1, "go", "ok", 1)]), ring(3), Box(2, [1], [(1, "go", "ok", 0)])]
        first = Box(6, [0, 3], [(0, "go", "ok", 4), (1, "go", "ok", 5), (2, "go", "ok", 3),
                                (3, "go", "ok", 4), (4, "go", "ok", 5), (5, "go", "ok", 3)])
        self.assertEqual(all_in_step(*boxes[:2]), first)
        steps = [(2 * state + 1, "go", "ok", 2 * to) for state, _, _, to in first]
        self.assertEqual(all_in_step(*boxes), wide(12, [1, 7], steps))

    def test_boxes_stay(self):
        boxes = [early(), late(), early()]
        found = all_in_step(*boxes)
        self.assertEqual((found.states, boxes), (48, [early(), late(), early()]))

    def test_rings(self):
        found = all_in_step(ring(2), ring(3), ring(5))
        self.assertEqual((found.states, len(found), len(found.reachable())), (30, 30, 30))


class TestFacts(unittest.TestCase):
    """Against a plain reckoning over many small boxes."""

    def check(self, box, wanted):
        self.assertEqual((box.states, box.starts(), box.steps()), wanted)

    def test_boxes_put_together(self):
        ones = plain.some_boxes(80, 233, 3, 6, A)
        for one, other in zip(ones, plain.some_boxes(80, 239, 3, 6, B)):
            self.check(beside(one, other), plain_more.beside(one, other))
        for one, other in zip(ones, plain.some_boxes(80, 241, 3, 6, A)):
            self.check(in_step(one, other), plain_more.in_step(one, other))

    def test_what_they_give(self):
        for one, other in zip(plain.some_boxes(30, 251, 2, 4, A), plain.some_boxes(30, 257, 2, 4, A)):
            both, either_of = in_step(one, other), either(one, other)
            rows = plain.rows_up_to(either_of, 4)
            apart = set(plain.rows_up_to(one, 4) + plain.rows_up_to(other, 4))
            self.assertEqual(rows, sorted(apart, key=lambda row: (len(row), row)))
            common = [row for row in rows if plain.gives(one, row) and plain.gives(other, row)]
            self.assertEqual(plain.rows_up_to(both, 4), common)
        for one, other in zip(plain.some_boxes(30, 263, 2, 4, A), plain.some_boxes(30, 269, 2, 4, B)):
            for row in plain.rows_up_to(beside(one, other), 3):
                self.assertTrue(plain.gives(one, tuple(sign for sign in row if sign in A)))
                self.assertTrue(plain.gives(other, tuple(sign for sign in row if sign in B)))

    def test_what_stands_for_another_one_still_does_when_both_are_put_together_or_named(self):
        kept = 0
        firsts = [pair for pair in plain.some_pairs(90, 271, 3, 5, A) if plain_more.stands(*pair)]
        for likes, put in ((B, beside), (A, in_step), (A, either)):
            seconds = [pair for pair in plain.some_pairs(90, 277, 2, 4, likes) if plain_more.stands(*pair)]
            for one, other in firsts[:25]:
                for further, last in seconds[:25]:
                    self.assertTrue(plain_more.stands(put(one, further), put(other, last)))
                    kept += 1
        self.assertTrue(kept > 1000, kept)
        for one, other in plain.some_pairs(200, 281, 3, 6, plain.SIGNS):
            if stands_for(one, other):
                for first, second in (("c", "d"), ("c", "c"), ("b", "a"), ("a", "a")):
                    names = {"a": first, "b": second}
                    made = [named(box, {call: names[call] for call in box.calls()}) for box in (one, other)]
                    self.assertTrue(plain_more.stands(*made))


if __name__ == "__main__":
    unittest.main()
