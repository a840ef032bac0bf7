"""Point [44]: falls, which show that there is no matching."""

import unittest

from aheadbehind.boxes import Box
from aheadbehind.matchings import (
    Backward, Forward, are_backward_falls, are_forward_falls, backward_falls, forward_falls,
)
from tests import plain
from tests.values import EqualToAll, early, late, ring, told, unlike_values

FLIP = (0, "flip", "ok", 1)
HEAD = (1, "look", "head", 2)
TAIL = (1, "look", "tail", 2)
LOOK = [(1, 1, TAIL), (1, 2, HEAD), (0, 0, FLIP)]


def two_ways():
    """Two boxes of which the one joins at its last state what the other one keeps apart."""
    one = Box(2, [0], [(0, "go", "ok", 1), (0, "go", "no", 1)])
    other = Box(3, [0], [(0, "go", "ok", 1), (0, "go", "no", 2)])
    return one, other


BACK = [(1, 0, (0, "go", "ok", 1)), (1, 1, (0, "go", "no", 1)), (1, 2, (0, "go", "ok", 1))]


class TestForwardFalls(unittest.TestCase):
    def check(self, value, wanted, one=late(), other=early()):
        self.assertIs(are_forward_falls(one, other, value), wanted, told(value))

    def test_the_ones_of_the_document(self):
        self.check(LOOK, True)
        self.check(tuple(LOOK), True)
        self.check(LOOK[1:], False)
        self.assertIs(are_forward_falls(value=LOOK, other=early(), one=late()), True)

    def test_what_they_rest_on_stands_ahead(self):
        self.check([LOOK[1], LOOK[0], LOOK[2]], True)
        self.check([LOOK[0], LOOK[2], LOOK[1]], False)
        self.check([LOOK[2], LOOK[0], LOOK[1]], False)
        self.check([LOOK[0], LOOK[2]], False)

    def test_a_start_falls_with_all_starts(self):
        self.check(LOOK[:2], False)
        self.check([], False)
        self.check((), False)
        two = early().with_starts([0, 3])
        self.check(LOOK, False, other=two)
        self.check(LOOK + [(0, 3, FLIP)], True, other=two)
        one = late().with_starts([2, 0])
        self.check(LOOK, True, one=one)
        self.check(LOOK[:2], False, one=one)

    def test_unlike_tuples(self):
        self.check(LOOK + [LOOK[0]], False)
        self.check([LOOK[0], LOOK[0]] + LOOK[1:], False)
        # One pair may fall twice, for two steps.
        self.check([(1, 0, HEAD), (1, 0, TAIL)] + LOOK, True)

    def test_more_than_is_needed(self):
        self.check([(1, 3, HEAD), (1, 0, TAIL)] + LOOK + [(0, 3, FLIP)], True)
        self.check(LOOK + [(1, 1, HEAD)], False)
        self.check(LOOK + [(2, 3, HEAD)], False)

    def test_the_step_is_one_from_the_state(self):
        edge = (1, "look", "edge", 2)
        for wrong in ((1, 0, FLIP), (2, 0, TAIL), (0, 1, TAIL), (1, 0, edge), (1, 0, None), (0, 0, None),
                      (1, 3, (1, "look", "head", 3)), (0, 3, (0, "look", "head", 2))):
            self.check([wrong] + LOOK, False)
            self.check(LOOK + [wrong], False)

    def test_pairs(self):
        one = Box(3, [0], [(0, "go", "ok", 0), (1, "go", "ok", 2)])
        other = Box(2, [0])
        falls = [(0, 0, (0, "go", "ok", 0))]
        self.check(falls, True, one, other)
        self.check(falls + [(1, 0, (1, "go", "ok", 2))], False, one, other)
        self.check(falls + [(0, 1, (0, "go", "ok", 0))], True, one, other)
        go = (0, "go", "ok", 0)
        values = [
            (0, 2, go), (0, -1, go), (-1, 0, go), (False, 0, go), (0, False, go), (0, 0, (False, "go", "ok", 0)),
            (0, 0, (0, "go", "ok", False)), (0, True, go), (0, (0,), go), (0, 0, ["go", "ok"]), (0, 0, list(go)),
            [0, 0, go], (0, 0), (0, 0, 0, 0), (0, EqualToAll(), go), (EqualToAll(), 0, go), (0, 0, EqualToAll()),
        ]
        for wrong in values:
            self.check([wrong], False, one, other)
            self.check(falls + [wrong], False, one, other)

    def test_values_of_many_kinds(self):
        for value in unlike_values():
            self.check(value, False)
            for place in range(4):
                self.check(LOOK[:place] + [value] + LOOK[place:], False)
        for value in (iter(LOOK), {fall: True for fall in LOOK}, set(LOOK), [LOOK], None):
            self.check(value, False)

    def test_any_number_of_states(self):
        box = ring(30) - (7, "go", "ok", 8)
        falls = forward_falls(ring(30), box)
        self.assertIs(are_forward_falls(ring(30), box, falls), True)
        self.assertTrue(plain.are_forward_falls(ring(30), box, falls))


class TestBackwardFalls(unittest.TestCase):
    def check(self, value, wanted, one=two_ways()[0], other=two_ways()[1]):
        self.assertIs(are_backward_falls(one, other, value), wanted, told(value))

    def test_a_reachable_state_falls_with_all_states(self):
        self.check(BACK, True)
        self.check(tuple(BACK[::-1]), True)
        one, other = two_ways()
        self.assertIs(are_backward_falls(value=BACK, other=other, one=one), True)
        for place in range(3):
            self.check(BACK[:place] + BACK[place + 1:], False)
        self.check([], False)

    def test_a_start_with_a_state_that_is_none(self):
        self.check([(0, 1, None), (0, 2, None)], False)
        self.check(BACK + [(0, 1, None), (0, 2, None)], True)
        for wrong in ((0, 0, None), (1, 0, None), (1, 1, None), (0, 3, None)):
            self.check(BACK + [wrong], False)
            self.check([wrong] + BACK, False)
        one, other = Box(2, [0], [(0, "go", "ok", 0)]), Box(2, [1], [(0, "go", "ok", 1)])
        first = [(0, 0, None), (0, 1, (0, "go", "ok", 0))]
        self.check(first, True, one, other)
        self.check(first[::-1], False, one, other)
        self.check(first[1:], False, one, other)
        self.check([(0, 0, (0, "go", "ok", 0)), (0, 1, (0, "go", "ok", 0))], True, one, other)

    def test_unlike_tuples(self):
        self.check(BACK + BACK[:1], False)
        self.check(BACK + [(1, 0, (0, "go", "no", 1))], True)

    def test_the_step_is_one_to_the_state_from_a_reachable_one(self):
        for wrong in ((0, 1, (0, "go", "ok", 1)), (1, 2, (0, "go", "no", 1)), (1, 1, (1, "go", "no", 0)),
                      (1, 1, (0, "go", "so", 1)), (1, 1, (0, "go", "no", 2))):
            self.check(BACK + [wrong], False)
            self.check([wrong] + BACK, False)
        one = Box(3, [0], [(0, "go", "ok", 1), (2, "no", "no", 1)])
        other = Box(2, [0], [(0, "go", "ok", 1)])
        self.check([(1, 0, (2, "no", "no", 1)), (1, 1, (2, "no", "no", 1))], False, one, other)
        both = one.with_starts([0, 2])
        self.check([(1, 0, (2, "no", "no", 1)), (1, 1, (2, "no", "no", 1))], True, both, other)

    def test_what_they_rest_on_stands_ahead(self):
        one = Box(3, [0], [(0, "go", "ok", 1), (0, "go", "no", 1), (1, "go", "on", 2)])
        other = Box(4, [0], [(0, "go", "ok", 1), (0, "go", "no", 2), (1, "go", "on", 3), (2, "go", "on", 3)])
        last = (1, "go", "on", 2)
        ahead = [(1, 1, (0, "go", "no", 1)), (1, 2, (0, "go", "ok", 1))]
        behind = [(2, 3, last), (2, 0, last), (2, 1, last), (2, 2, last)]
        self.check(ahead + behind, True, one, other)
        self.check(behind + ahead, False, one, other)
        self.check(ahead[:1] + behind + ahead[1:], False, one, other)
        self.check(ahead[1:] + behind, False, one, other)
        self.check(ahead + behind[:3], False, one, other)

    def test_values_of_many_kinds(self):
        step = (0, "go", "ok", 1)
        for value in unlike_values():
            self.check(value, False)
            for place in range(4):
                self.check(BACK[:place] + [value] + BACK[place:], False)
        for wrong in ((True, 0, step), (1, False, step), (1, True, (0, "go", "no", 1)), (1, 0, (False, "go", "ok", 1)),
                      (1, 0, (0, "go", "ok", True)), [1, 0, step], (1, 0, list(step)), (1, (0,), step), (1, 0),
                      (1, 0, step, 0), (1, 0, EqualToAll()), (EqualToAll(), 0, step), (1, EqualToAll(), step)):
            self.check([wrong] + BACK[1:], False)
            self.check(BACK + [wrong], False)

    def test_any_number_of_states(self):
        box = ring(30) - (7, "go", "ok", 8)
        falls = backward_falls(ring(30), box)
        self.assertIs(are_backward_falls(ring(30), box, falls), True)
        self.assertTrue(plain.are_backward_falls(ring(30), box, falls))


class TestFound(unittest.TestCase):
    def test_there_are_none_where_there_is_a_matching(self):
        self.assertEqual(forward_falls(early(), late()), None)
        self.assertEqual(backward_falls(late(), early()), None)
        self.assertEqual(forward_falls(other=ring(3), one=ring(2)), None)
        self.assertEqual(backward_falls(other=ring(1), one=ring(2)), None)

    def test_they_show_it_where_there_is_none(self):
        falls = forward_falls(late(), early())
        self.assertIs(type(falls), list)
        self.assertIs(are_forward_falls(late(), early(), falls), True)
        self.assertTrue(plain.are_forward_falls(late(), early(), falls))
        one, other = two_ways()
        falls = backward_falls(one, other)
        self.assertIs(type(falls), list)
        self.assertIs(are_backward_falls(one, other, falls), True)
        self.assertTrue(plain.are_backward_falls(one, other, falls))
        falls.clear()
        self.assertTrue(len(backward_falls(one, other)) >= 3)

    def test_falls_where_there_is_a_matching_show_nothing(self):
        falls = [(0, 1, (0, "flip", "ok", 1)), (0, 2, (0, "flip", "ok", 2))]
        self.assertIs(are_forward_falls(early(), late(), falls), False)
        self.assertIs(are_backward_falls(late(), early(), [(0, 1, None), (0, 2, None), (0, 3, None)]), False)


class TestFacts(unittest.TestCase):
    """Over many pairs of small boxes: falls are found exactly where there is no matching, and are read by the words."""

    def boxes(self):
        return plain.some_pairs(150, 47, 3, 7, plain.SIGNS[:2])

    def test_they_are_found_exactly_where_there_is_no_matching(self):
        counts = [0, 0, 0, 0]
        for one, other in self.boxes():
            falls = forward_falls(one, other)
            self.assertIs(falls is None, plain.has_forward(one, other))
            counts[falls is None] += 1
            if falls is not None:
                self.assertTrue(plain.are_forward_falls(one, other, falls))
                self.assertIs(are_forward_falls(one, other, falls), True)
            falls = backward_falls(one, other)
            self.assertIs(falls is None, plain.has_backward(one, other))
            counts[2 + (falls is None)] += 1
            if falls is not None:
                self.assertTrue(plain.are_backward_falls(one, other, falls))
                self.assertIs(are_backward_falls(one, other, falls), True)
        self.assertTrue(min(counts) > 30, counts)

    def test_changed_ones_are_read_by_the_words(self):
        counts = {True: 0, False: 0}
        for one, other in self.boxes():
            for found, is_read, wanted in (
                (forward_falls(one, other), are_forward_falls, plain.are_forward_falls),
                (backward_falls(one, other), are_backward_falls, plain.are_backward_falls),
            ):
                for value in self.changed(one, other, found or []):
                    self.assertIs(is_read(one, other, value), wanted(one, other, value), (one, other, value))
                    counts[is_read(one, other, value)] += 1
        self.assertTrue(min(counts.values()) > 300, counts)

    def changed(self, one, other, falls):
        """The falls without one of them, with one of them moved, and with all that might fall behind or ahead."""
        for place in range(len(falls)):
            rest = falls[:place] + falls[place + 1:]
            yield rest
            yield [falls[place]] + rest
            yield rest + [falls[place]]
        for a, b in plain.all_pairs(one, other):
            for why in [None] + one.steps():
                yield falls + [(a, b, why)]
                yield [(a, b, why)] + falls

    def test_whoever_finds_no_falls_finds_a_matching(self):
        for one, other in self.boxes():
            if forward_falls(one, other) is None:
                self.assertTrue(plain.is_forward(one, other, Forward.greatest(one, other).pairs()))
            if backward_falls(one, other) is None:
                self.assertTrue(plain.is_backward(one, other, Backward.greatest(one, other).pairs()))


if __name__ == "__main__":
    unittest.main()
