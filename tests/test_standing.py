"""Points [2], [31], [32], [34]: standing for another box, and missing rows."""

import itertools
import unittest

from aheadbehind.boxes import Box
from aheadbehind.errors import InvalidNumber, TooMany
from aheadbehind.standing import are_alike, is_missing, missing_count, missing_row, parting_row, stands_for
from tests import plain
from tests.refusals import Refusals
from tests.values import EqualToAll, early, late, parts, ring, told, unlike_values, wide, wrong_numbers

FLIP = ("flip", "ok")
HEAD = ("look", "head")
TAIL = ("look", "tail")
GO = ("go", "ok")


def headed():
    """The box late without one of its answers."""
    return late() - (1, "look", "tail", 2)


def line(length):
    """A box that gives just the rows of so many equal signs and fewer."""
    return wide(length + 1, [0], [(state, "go", "ok", state + 1) for state in range(length)])


class TestStandsFor(unittest.TestCase):
    def test_bools(self):
        for one, other, wanted in (
            (late(), early(), True), (early(), late(), True), (headed(), late(), True), (late(), headed(), False),
            (headed(), early(), True), (early(), headed(), False), (Box(1, [0]), late(), True),
            (late(), Box(1, [0]), False), (Box(1, [0]), Box(3, [2, 1]), True),
        ):
            self.assertIs(stands_for(one, other), wanted)
            self.assertIs(stands_for(other=other, one=one), wanted)

    def test_steps_with_signs_that_only_the_other_has_play_no_part(self):
        more = late() + (0, "off", "ok", 2) + (2, "off", "ok", 0)
        self.assertIs(stands_for(early(), more), True)
        self.assertIs(stands_for(more, early()), False)
        self.assertEqual(missing_row(more, early()), [("off", "ok")])

    def test_steps_that_are_not_reachable_play_no_part(self):
        one = Box(3, [0], [(0, "go", "ok", 0), (1, "go", "no", 2), (2, "go", "no", 0)])
        self.assertIs(stands_for(one, ring(2)), True)
        other = Box(3, [0], [(1, "go", "ok", 1), (2, "go", "ok", 0)])
        self.assertEqual(missing_row(one, other), [GO])

    def test_two_starts(self):
        two = early().with_starts([1, 2])
        self.assertEqual(missing_row(two, early()), [HEAD])
        self.assertIs(stands_for(early().with_starts([1]), two), True)
        self.assertEqual(missing_row(two, early().with_starts([1])), [TAIL])

    def test_any_number_of_states_of_the_one(self):
        self.assertIs(stands_for(ring(40), ring(7)), True)
        self.assertEqual(missing_row(line(30), line(6)), [GO] * 7)
        self.assertEqual(missing_row(ring(40), line(6)), [GO] * 7)
        self.assertIs(stands_for(line(30), ring(7)), True)


class TestMissingRow(unittest.TestCase):
    def test_the_shortest_of_these_the_least(self):
        self.assertEqual(missing_row(late(), early()), None)
        self.assertEqual(missing_row(late(), headed()), [FLIP, TAIL])
        self.assertEqual(missing_row(other=Box(1, [0]), one=late()), [FLIP])
        one = Box(4, [0], [(0, "b", "b", 1), (0, "a", "b", 2), (1, "a", "a", 3), (2, "b", "b", 3), (0, "a", "a", 0)])
        self.assertEqual(missing_row(one, Box(1, [0], [(0, "a", "a", 0)])), [("a", "b")])
        other = Box(2, [0], [(0, "b", "b", 1), (0, "a", "b", 1), (0, "a", "a", 0)])
        self.assertEqual(missing_row(one, other), [("a", "b"), ("b", "b")])

    def test_what_is_told_is_new(self):
        one, other = late(), headed()
        row = missing_row(one, other)
        row.append("changed")
        self.assertEqual(missing_row(one, other), [FLIP, TAIL])

    def test_the_empty_row_is_never_missing(self):
        for one, other in plain.some_pairs(30, 3, 2, 5, plain.SIGNS):
            self.assertNotEqual(missing_row(one, other), [])
            self.assertIs(is_missing(one, other, []), False)


class TestIsMissing(unittest.TestCase):
    def test_rows(self):
        for value in ([FLIP, TAIL], (FLIP, TAIL)):
            self.assertIs(is_missing(late(), headed(), value), True)
            self.assertIs(is_missing(value=value, other=headed(), one=late()), True)
        for value in ([FLIP, HEAD], [FLIP], [], [TAIL], [FLIP, TAIL, FLIP]):
            self.assertIs(is_missing(late(), headed(), value), False)
        self.assertIs(is_missing(late(), early(), [FLIP, TAIL]), False)
        self.assertIs(is_missing(line(9), line(4), [GO] * 9), True)

    def test_values_of_many_kinds(self):
        one, other = Box(1, [0], [(0, "go", "ok", 0)]), Box(1, [0])
        for value in unlike_values():
            wanted = type(value) in (list, tuple) and list(value) == [GO]
            self.assertIs(is_missing(one, other, value), wanted, told(value))
            self.assertIs(is_missing(one, other, [GO, value]), value == GO and isinstance(value, tuple), told(value))
        wrong = [[["go", "ok"]], [("go", EqualToAll())], {GO: 1}, {GO}, iter([GO]), [GO, None], [("go", "ok", "ok")]]
        for value in wrong:
            self.assertIs(is_missing(one, other, value), False, told(value))

    def test_any_number_of_states(self):
        self.assertIs(is_missing(ring(40), line(30), [GO] * 31), True)
        self.assertIs(is_missing(ring(40), line(30), [GO] * 30), False)


class TestMissingCount(Refusals):
    def test_counts(self):
        self.assertEqual([missing_count(late(), headed(), size) for size in range(4)], [0, 0, 1, 0])
        self.assertEqual([missing_count(late(), early(), size) for size in range(4)], [0, 0, 0, 0])
        free = Box(1, [0], [(0, "go", "ok", 0), (0, "go", "no", 0)])
        self.assertEqual(missing_count(free, Box(1, [0], [(0, "go", "ok", 0)]), 10), 2 ** 10 - 1)
        self.assertEqual(missing_count(free, Box(1, [0]), 200), 2 ** 200)
        self.assertEqual(missing_count(size=0, other=Box(1, [0]), one=free), 0)
        self.assertEqual(missing_count(ring(7), line(6), 7), 1)

    def test_rows_are_counted_once(self):
        one = Box(2, [0, 1], [(a, "go", answer, b) for a in (0, 1) for answer in ("ok", "no") for b in (0, 1)])
        self.assertEqual(missing_count(one, Box(2, [0, 1]), 5), 2 ** 5)
        self.assertEqual(missing_count(one, one, 5), 0)

    def test_wrong_sizes(self):
        for value in wrong_numbers(0, 200):
            self.refuse(InvalidNumber, [value], missing_count, late(), early(), value)
        self.refuse(InvalidNumber, [201], missing_count, ring(8), ring(8), 201)
        self.refuse(InvalidNumber, [True], missing_count, size=True, other=ring(8), one=ring(8))


class TestLimits(Refusals):
    def test_the_other_is_limited(self):
        for deed in (stands_for, missing_row, are_alike, parting_row):
            self.refuse(TooMany, ["states", 7], deed, ring(2), ring(8))
            self.refuse(TooMany, ["states", 7], deed, ring(8), ring(8))
            self.refuse(TooMany, ["states", 7], deed, other=wide(8), one=wide(1))
            deed(ring(7), ring(7))
        self.refuse(TooMany, ["states", 7], missing_count, ring(2), ring(8), 3)

    def test_the_one_is_limited_in_some(self):
        for deed in (are_alike, parting_row):
            for other in (ring(2), line(2), Box(1, [0])):
                self.refuse(TooMany, ["states", 7], deed, ring(8), other)
                self.refuse(TooMany, ["states", 7], deed, other, ring(8))
        self.refuse(TooMany, ["states", 7], missing_count, ring(8), ring(2), 0)
        self.assertEqual((stands_for(ring(8), ring(2)), missing_row(ring(8), ring(2))), (True, None))
        self.assertEqual(missing_count(ring(7), ring(7), 200), 0)


class TestAlike(unittest.TestCase):
    def test_bools(self):
        self.assertIs(are_alike(late(), early()), True)
        self.assertIs(are_alike(other=late(), one=early()), True)
        self.assertIs(are_alike(late(), headed()), False)
        self.assertIs(are_alike(headed(), late()), False)
        self.assertIs(are_alike(Box(1, [0]), Box(2, [1, 0], [])), True)
        self.assertIs(are_alike(ring(2), ring(7)), True)

    def test_parting_rows(self):
        self.assertEqual(parting_row(late(), early()), None)
        self.assertEqual(parting_row(late(), headed()), [FLIP, TAIL])
        self.assertEqual(parting_row(other=late(), one=headed()), [FLIP, TAIL])
        one = Box(2, [0], [(0, "b", "b", 1), (1, "a", "a", 1)])
        other = Box(2, [0], [(0, "b", "b", 1), (1, "a", "b", 1)])
        self.assertEqual((parting_row(one, other), parting_row(other, one)), ([("b", "b"), ("a", "a")],) * 2)

    def test_a_shorter_row_is_ahead_of_a_lesser_one(self):
        one = Box(3, [0], [(0, "a", "a", 1), (1, "a", "a", 2)])
        other = Box(3, [0], [(0, "a", "a", 1), (0, "b", "b", 2)])
        self.assertEqual((parting_row(one, other), parting_row(other, one)), ([("b", "b")], [("b", "b")]))


class TestNothingChanges(unittest.TestCase):
    def test_the_boxes_stay(self):
        one, other = late(), headed()
        before = parts(one), parts(other)
        for deed in (stands_for, missing_row, are_alike, parting_row):
            self.assertEqual(deed(one, other), deed(one, other))
        self.assertEqual(missing_count(one, other, 2), missing_count(one, other, 2))
        self.assertEqual((parts(one), parts(other)), before)


class TestFacts(unittest.TestCase):
    """Against a plain reckoning over many pairs of small boxes."""

    def test_of_two_states(self):
        # If a row is missing, one of at most 2 * 2 ** 2 signs is: a state of the one and a set of the other's.
        found = []
        for one, other in plain.some_pairs(240, 7, 2, 5, plain.SIGNS[:2]):
            missing = plain.first_missing(one, other, 8)
            found.append(missing)
            self.assertEqual(missing_row(one, other), missing)
            self.assertIs(stands_for(one, other), missing is None)
        self.assertTrue(60 < found.count(None) < 180)
        self.assertTrue(max(len(row) for row in found if row) > 1)

    def test_of_three_states(self):
        for one, other in plain.some_pairs(120, 7, 3, 8, plain.SIGNS):
            first, second = plain.first_missing(one, other, 4), plain.first_missing(other, one, 4)
            for deed, wanted in ((missing_row(one, other), first), (missing_row(other, one), second)):
                self.assertTrue(deed == wanted if wanted is not None or deed is None else len(deed) > 4)
            both = [row for row in (missing_row(one, other), missing_row(other, one)) if row is not None]
            wanted = min(both, key=lambda row: (len(row), row)) if both else None
            self.assertEqual(parting_row(one, other), wanted)
            self.assertIs(are_alike(one, other), both == [])

    def test_missing_rows_and_their_number(self):
        for one, other in plain.some_pairs(60, 13, 3, 7, plain.SIGNS[:2]):
            for size in range(5):
                rows = [row for row in plain.rows_of(one, size) if not plain.gives(other, row)]
                self.assertEqual(missing_count(one, other, size), len(rows))
                for row in itertools.product(plain.SIGNS[:2], repeat=size):
                    self.assertIs(is_missing(one, other, row), row in rows)


if __name__ == "__main__":
    unittest.main()
