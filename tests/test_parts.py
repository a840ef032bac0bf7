"""Point [81]: the room beside a helper."""

import itertools
import unittest

from aheadbehind.basics import is_sign
from aheadbehind.boxes import Box
from aheadbehind.errors import InvalidSigns, TooMany
from aheadbehind.forms import form
from aheadbehind.parts import room
from tests import plain, plain_more
from tests.refusals import Refusals
from tests.values import EqualToAll, early, late, parts, ring, wide, wrong_lists

GO = ("go", "ok")
OFF = ("off", "ok")


def line(length):
    """A box that gives just the rows of so many equal signs and fewer."""
    return wide(length + 1, [0], [(state, *GO, state + 1) for state in range(length)])


class TestRoom(Refusals):
    def test_behind_what_the_helper_does_not_give_all_is_free(self):
        steps = [(0, *GO, 1), (0, *OFF, 2), (1, *OFF, 2), (2, *GO, 2), (2, *OFF, 2)]
        found = room(ring(1), line(1), [GO, OFF])
        self.assertIs(type(found), Box)
        self.assertEqual(found, Box(3, [0], steps))
        self.assertEqual(room(signs=(OFF, GO), whole=line(1), helper=ring(1)), Box(3, [0], steps))

    def test_only_these_signs(self):
        self.assertEqual(room(ring(1), line(1), [GO]), line(1))
        self.assertEqual(room(ring(1), line(1), [OFF]), Box(1, [0], [(0, *OFF, 0)]))
        self.assertEqual(room(late(), early(), [GO]), Box(1, [0], [(0, *GO, 0)]))

    def test_no_signs(self):
        for signs in ([], ()):
            self.assertEqual(room(late(), early(), signs), Box(1, [0]))
            self.assertEqual(room(ring(1), Box(1, [0]), signs), Box(1, [0]))

    def test_the_whole_gives_nothing(self):
        self.assertEqual(room(ring(1), Box(1, [0]), [GO]), Box(1, [0]))
        self.assertEqual(room(Box(1, [0]), Box(1, [0]), [GO]), Box(1, [0], [(0, *GO, 0)]))
        steps = [(0, *OFF, 1), (1, *GO, 1), (1, *OFF, 1)]
        self.assertEqual(room(line(1), Box(1, [0]), [GO, OFF]), Box(2, [0], steps))

    def test_it_is_the_form(self):
        signs = [("flip", "ok"), ("look", "head"), ("look", "tail")]
        for helper, whole in ((late(), early()), (ring(2), ring(3)), (line(2), ring(1)), (late(), late())):
            self.assertEqual(room(helper, whole, signs), form(room(helper, whole, signs)))
            self.assertEqual(room(helper, whole, signs + [GO]).starts(), [0])

    def test_the_helper_gives_less_than_the_whole(self):
        self.assertEqual(room(line(1), line(2), [GO]), Box(1, [0], [(0, *GO, 0)]))
        self.assertEqual(room(line(2), line(1), [GO]), line(1))
        self.assertEqual(room(ring(3), line(3), [GO]), line(3))
        self.assertEqual(room(ring(3), ring(4), [GO]), ring(1))

    def test_three_and_four_states_of_the_helper_four_and_five_of_the_whole(self):
        self.assertEqual(room(ring(3), ring(4), [GO]), ring(1))
        self.refuse(TooMany, ["states", 3], room, ring(4), ring(4), [GO])
        self.refuse(TooMany, ["states", 4], room, ring(3), ring(5), [GO])
        self.refuse(TooMany, ["states", 3], room, wide(40), ring(5), [GO])
        self.refuse(TooMany, ["states", 3], room, signs=(), whole=ring(5), helper=ring(4))

    def test_more_than_seven_states_between(self):
        whole = Box(4, [0], [(0, "a", "x", 0), (0, "b", "x", 0), (0, "a", "x", 1), (1, "a", "x", 2), (1, "b", "x", 2),
                             (2, "a", "x", 3), (2, "b", "x", 3), (3, "c", "x", 3)])
        helper = Box(1, [0], [(0, call, "x", 0) for call in "abc"])
        found = room(helper, whole, [("a", "x"), ("b", "x"), ("c", "x")])
        self.assertEqual(found, form(whole))
        self.assertEqual(found.states, 9)

    def test_signs_that_are_none(self):
        wrong = wrong_lists([GO, OFF], is_sign) + [
            ([GO, GO], 1), ((OFF, GO, OFF), 2), ([("go", True)], 0), ([list(GO)], 0), ([GO, "gook"], 1), ([GO, None, 0], 1),
            (iter([GO]), None), ({GO: 1}, None), ({GO}, None), ([EqualToAll()], 0), ([("go", EqualToAll())], 0),
        ]
        for signs, position in wrong:
            self.refuse(InvalidSigns, [position], room, ring(1), ring(1), signs)
            self.refuse(InvalidSigns, [position], room, signs=signs, whole=ring(5), helper=ring(4))

    def test_what_is_passed_stays(self):
        helper, whole, signs = late(), early(), [("look", "tail"), ("flip", "ok")]
        found = room(helper, whole, signs)
        self.assertEqual((parts(helper), parts(whole)), (parts(late()), parts(early())))
        self.assertEqual(signs, [("look", "tail"), ("flip", "ok")])
        self.assertEqual(room(helper, whole, signs[::-1]), found)


class TestFacts(unittest.TestCase):
    """Against a plain reckoning over many small boxes."""

    def test_just_the_rows_that_are_free_are_given(self):
        free = 0
        helpers = plain.some_boxes(70, 283, 3, 6, plain.SIGNS)
        for helper, whole in zip(helpers, plain.some_boxes(70, 293, 3, 7, plain.SIGNS)):
            for signs in (plain.SIGNS, plain.SIGNS[:2], plain.SIGNS[1:] + [("c", "x")]):
                found = room(helper, whole, signs)
                wanted = [row for size in range(5) for row in itertools.product(sorted(signs), repeat=size)
                          if plain_more.is_roomy(helper, whole, row)]
                self.assertEqual(plain.rows_up_to(found, 4), wanted)
                free += len(wanted) > 1
                self.check_form(found)
        self.assertTrue(free > 100)

    def check_form(self, box):
        self.assertTrue(box.is_sure)
        self.assertEqual((box.starts(), box.reachable()), ([0], list(range(box.states))))
        firsts = {}
        for row in plain.rows_up_to(box, 4):
            firsts.setdefault(plain.behind(box, [0], row)[0], row)
        self.assertEqual(list(firsts), list(range(len(firsts))))
        for state in range(box.states):
            for further in range(state):
                one, other = box.with_starts([state]), box.with_starts([further])
                self.assertFalse(plain_more.stands(one, other) and plain_more.stands(other, one))

    def test_it_is_the_greatest_in_step_with_the_helper(self):
        signs = plain.SIGNS[:2]
        helpers = plain.some_boxes(25, 307, 2, 5, signs)
        wholes = plain.some_boxes(25, 311, 2, 6, signs)
        boxes = plain.some_boxes(40, 313, 2, 5, signs)
        fits = 0
        for helper, whole in zip(helpers, wholes):
            found = room(helper, whole, signs)
            self.assertTrue(plain_more.stands(plain_more.box_of(plain_more.in_step(helper, found)), whole))
            for box in boxes:
                fit = plain_more.stands(plain_more.box_of(plain_more.in_step(helper, box)), whole)
                self.assertIs(plain_more.stands(box, found), fit)
                fits += fit
        self.assertTrue(100 < fits < 900, fits)


if __name__ == "__main__":
    unittest.main()
