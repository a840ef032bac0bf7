"""Points [34] and [63]: families of sets, and the least ones that serve."""

import unittest

from aheadbehind.boxes import Box
from aheadbehind.errors import InvalidFamily, InvalidKind, NotStanding, TooMany
from aheadbehind.families import family_box, least_families, least_size, serves
from tests import plain, plain_fans
from tests.refusals import Refusals
from tests.values import EqualToAll, early, late, parts, ring, told, unlike_values, wide, wrong_kinds, wrong_lists

KINDS = plain_fans.KINDS
FLIP = ("flip", "ok")
TAIL = ("look", "tail")
SETS = [(0,), (1, 2), (3,)]


def headed():
    """The box late without one of its answers."""
    return late() - (1, "look", "tail", 2)


def lines(most):
    """All pairs of boxes that only go on with one sign for so many steps, or fewer."""
    boxes = [wide(count + 1, [0], [(at, "a", "x", at + 1) for at in range(count)]) for count in range(most + 1)]
    return [(one, other) for one in boxes for other in boxes]


class TestServes(Refusals):
    def check(self, value, wanted, kind="remembering", one=late(), other=early()):
        self.assertIs(serves(one, other, kind, value), wanted, told(value))

    def test_families(self):
        self.check(SETS, True)
        self.check(tuple(SETS[::-1]), True)
        self.check(SETS + [(0, 1, 2, 3)], True)
        self.check(SETS[1:], False)
        self.check([(0,), (1,), (2,), (3,)], False)
        self.check([(0,), (1,), (2,), (3,)], True, "guessing")
        self.check([(0,), (1,), (2,)], False, "guessing")
        self.check(SETS, False, "guessing")
        self.check(plain_fans.all_sets(3, 3), False, "remembering", late(), headed())
        self.assertIs(serves(value=SETS, kind="remembering", other=early(), one=late()), True)

    def test_the_empty_family(self):
        for kind in KINDS:
            self.check([], False, kind)
            self.check((), False, kind, Box(1, [0]), Box(1, [0]))

    def test_any_number_of_states(self):
        for kind in KINDS:
            self.check([(state,) for state in range(9)], True, kind, ring(9), ring(9))
            self.check([(state,) for state in range(8)], False, kind, ring(9), ring(9))
            self.check([(0,), (7,)], True, kind, Box(1, [0]), wide(30, [0, 7]))

    def test_values_of_many_kinds(self):
        one = Box(1, [0])
        wrong = [[(1,)], [(0, 0)], [(0,), (0,)], [[0]], [(False,)], [()], [(0,), ()], [(EqualToAll(),)], {(0,): 1}]
        for kind in KINDS:
            self.check([(0,)], True, kind, one, one)
            for value in wrong + unlike_values():
                self.check(value, False, kind, one, one)
                self.check([(0,), value], False, kind, one, one)
                self.check([value, (0,)], False, kind, one, one)

    def test_kinds(self):
        for value in wrong_kinds():
            self.refuse(InvalidKind, [value], serves, late(), early(), value, SETS)
            self.refuse(InvalidKind, [value], serves, late(), early(), kind=value, value=None)


class TestFamilyBox(Refusals):
    def test_remembering(self):
        self.assertEqual(family_box(early(), "remembering", SETS), late())
        self.assertEqual(family_box(family=SETS[::-1], kind="remembering", other=early()), late())
        self.assertEqual(family_box(early(), "remembering", tuple(SETS)), late())

    def test_remembering_sets_of_starts_alone_are_starts(self):
        box = Box(3, [0, 2], [(0, "go", "ok", 1), (2, "go", "ok", 0)])
        family = [(0,), (0, 1), (0, 2), (1,), (2,)]
        steps = [(0, 3), (1, 3), (2, 0), (2, 1), (2, 3), (4, 0)]
        wanted = Box(5, [0, 2, 4], [(a, "go", "ok", b) for a, b in steps])
        self.assertEqual(family_box(box, "remembering", family), wanted)

    def test_guessing_sets_with_a_start_are_starts(self):
        box = Box(3, [0, 2], [(0, "go", "ok", 1), (2, "go", "ok", 0)])
        family = [(0,), (0, 1), (0, 2), (1,), (2,)]
        steps = [(0, 1), (0, 3), (2, 1), (4, 0), (4, 1), (4, 2)]
        wanted = Box(5, [0, 1, 2, 4], [(a, "go", "ok", b) for a, b in steps])
        self.assertEqual(family_box(box, "guessing", family), wanted)
        self.assertEqual(family_box(early(), "guessing", [(3,), (0,), (2,), (1,)]), early())

    def test_more_than_six_states(self):
        free = Box(3, [0, 1, 2], [(a, "go", "ok", b) for a in range(3) for b in range(3)])
        for kind in KINDS:
            box = family_box(free, kind, plain_fans.all_sets(3, 3))
            self.assertEqual((box.states, box.starts(), len(box)), (7, list(range(7)), 49))
            self.assertEqual(family_box(ring(20), kind, [(0,), (19,)]), Box(2, [0], [(1, "go", "ok", 0)]))

    def test_values_that_are_no_family_with_a_start(self):
        for kind in KINDS:
            for value in unlike_values():
                self.refuse(InvalidFamily, [value], family_box, early(), kind, value)
            for value in ([], (), [(1,), (2, 3)], [(0,), (0,)], [[0]], [(0,), ()], [(0,), (4,)], [(0,), (2, 1)], {(0,)},
                          {(0,): 1}, [(0,), (True, 2)], [(False,)], [(0,), (EqualToAll(),)], [(0,), EqualToAll()]):
                self.refuse(InvalidFamily, [value], family_box, early(), kind, family=value)
            for values, position in wrong_lists([(0,), (1, 2)], lambda value: False):
                if position is not None:
                    self.refuse(InvalidFamily, [values], family_box, early(), kind, values)

    def test_a_start_is_asked_for_as_the_kind_has_it(self):
        self.refuse(InvalidFamily, [[(0, 1)]], family_box, early(), "remembering", [(0, 1)])
        self.assertEqual(family_box(early(), "guessing", [(0, 1)]), Box(1, [0]))
        both = Box(2, [0, 1])
        self.assertEqual(family_box(both, "remembering", [(0, 1)]), Box(1, [0]))

    def test_kinds(self):
        for value in wrong_kinds():
            self.refuse(InvalidKind, [value], family_box, early(), value, SETS)
            self.refuse(InvalidKind, [value], family_box, early(), value, None)


class TestLeast(Refusals):
    def test_the_least_ones(self):
        self.assertEqual(least_families(late(), early(), "remembering"), [[(0,), (1, 2), (3,)]])
        self.assertEqual(least_size(late(), early(), "remembering"), 3)
        self.assertEqual(least_families(ring(2), ring(4), "guessing"), [[(0, 1, 2, 3)]])
        self.assertEqual(least_families(kind="remembering", other=ring(1), one=ring(2)), [[(0,)]])
        self.assertEqual(least_size(ring(2), ring(1), "guessing"), 1)

    def test_all_of_that_number_sorted(self):
        one, other = Box(1, [0]), Box(2, [0, 1])
        self.assertEqual(least_families(one, other, "remembering"), [[(0,)], [(0, 1)], [(1,)]])
        self.assertEqual(least_families(one, Box(2, [1]), "guessing"), [[(0, 1)], [(1,)]])
        self.assertEqual(least_families(one, Box(2, [1]), "remembering"), [[(1,)]])
        self.assertEqual(least_size(one, Box(4, [1, 2]), "remembering"), 1)

    def test_more_than_three(self):
        self.assertEqual(least_families(late(), early(), "guessing"), [])
        self.assertEqual(least_size(late(), early(), "guessing"), None)
        self.assertEqual(least_families(ring(4), ring(4), "remembering"), [])
        self.assertEqual(least_size(kind="remembering", other=ring(4), one=ring(4)), None)
        self.assertEqual(least_size(ring(4), ring(3), "remembering"), 3)

    def test_four_states_and_five(self):
        for deed in (least_size, least_families):
            for kind in KINDS:
                deed(ring(4), ring(4), kind)
                deed(ring(12), ring(4), kind)
                self.refuse(TooMany, ["states", 4], deed, ring(1), ring(5), kind)
                self.refuse(TooMany, ["states", 4], deed, late(), ring(5), kind=kind)

    def test_it_does_not_stand_for_it(self):
        for deed in (least_size, least_families):
            for kind in KINDS:
                self.refuse(NotStanding, [[FLIP, TAIL]], deed, late(), headed(), kind)

    def test_kinds(self):
        for deed in (least_size, least_families):
            for value in wrong_kinds():
                self.refuse(InvalidKind, [value], deed, late(), early(), value)
            self.refuse(InvalidKind, [None], deed, kind=None, other=ring(5), one=late())

    def test_what_is_passed_and_told_stays(self):
        one, other, family = late(), early(), list(SETS)
        before = parts(one), parts(other)
        family_box(other, "remembering", family)
        serves(one, other, "remembering", family)
        least_families(one, other, "remembering")[0].clear()
        least_families(one, other, "remembering").clear()
        self.assertEqual(least_families(one, other, "remembering"), [SETS])
        self.assertEqual((parts(one), parts(other), family), (*before, SETS))


class TestFacts(unittest.TestCase):
    """Against a plain reckoning over many small boxes."""

    def test_which_families_serve_and_the_least_ones(self):
        counts = {None: 0, 1: 0, 2: 0, 3: 0}
        for one, other in plain.some_pairs(80, 107, 3, 6, plain.SIGNS[:2]) + lines(2):
            families = [family for family in plain.parts_of(plain_fans.all_sets(other.states, 3)) if len(family) <= 3]
            for kind in KINDS:
                found = [family for family in families if plain_fans.greatest(kind, one, other, family) is not None]
                for family in families[::5]:
                    self.assertIs(serves(one, other, kind, family), family in found)
                if plain.first_missing(one, other, 5) is None:
                    size = min([len(family) for family in found], default=None)
                    self.assertEqual(least_size(one, other, kind), size)
                    wanted = sorted(family for family in found if len(family) == size)
                    self.assertEqual(least_families(one, other, kind), wanted)
                    counts[size] += 1
        self.assertTrue(min(counts[size] for size in (1, 2, 3)) > 2, counts)

    def test_the_box_of_a_family(self):
        for other in plain.some_boxes(40, 109, 3, 6, plain.SIGNS[:2]):
            for family in plain.parts_of(plain_fans.all_sets(other.states, 3))[::3]:
                for kind in KINDS:
                    if kind == "remembering":
                        starts = [at for at, chosen in enumerate(family) if set(chosen) <= set(other.starts())]
                    else:
                        starts = [at for at, chosen in enumerate(family) if set(chosen) & set(other.starts())]
                    if starts:
                        box = family_box(other, kind, family[::-1])
                        self.assertEqual((box.states, box.starts()), (len(family), starts))
                        self.assertEqual(box.steps(), self.steps(other, kind, family))
                    else:
                        with self.assertRaises(InvalidFamily):
                            family_box(other, kind, family)

    def steps(self, other, kind, family):
        return sorted(
            (first, *sign, second) for sign in other.signs()
            for first, less in enumerate(family) for second, more in enumerate(family)
            if (set(more) <= plain_fans.follow(other, less, sign) if kind == "remembering"
                else set(less) <= plain_fans.trace(other, more, sign))
        )

    def test_a_middle_of_so_many_states_exactly_if_a_family_of_so_many_or_fewer_serves(self):
        signs = plain.SIGNS[:1]
        between = {1: plain_fans.small_boxes(1, signs), 2: plain_fans.small_boxes(2, signs)}
        counts = {1: 0, 2: 0, 3: 0}
        for one, other in plain.some_pairs(60, 113, 3, 5, signs) + lines(3):
            if plain.first_missing(one, other, 12) is not None:
                continue
            for kind in KINDS:
                size = least_size(one, other, kind) or 4
                for states, boxes in between.items():
                    found = any(self.is_between(one, box, other, kind) for box in boxes)
                    self.assertIs(found, size <= states)
                counts[min(size, 3)] += 1
        self.assertTrue(min(counts.values()) > 3, counts)

    def is_between(self, one, box, other, kind):
        if kind == "remembering":
            return plain.has_forward(one, box) and plain.has_backward(box, other)
        return plain.has_backward(one, box) and plain.has_forward(box, other)


if __name__ == "__main__":
    unittest.main()
