"""Point [82]: the fewest steps to leave out, and trees which show that more are needed."""

import unittest

from aheadbehind.boxes import Box
from aheadbehind.changes import fewest_left_out, is_tree, leave_outs, tree
from aheadbehind.errors import InvalidNumber, TooMany
from tests import plain, plain_more
from tests.refusals import Refusals
from tests.values import EqualToAll, early, late, parts, ring, told, unlike_values, wide, wrong_numbers

FLIP = (0, "flip", "ok", 1)
HEAD = (1, "look", "head", 2)
TAIL = (1, "look", "tail", 2)


def headed():
    """The box late without one of its answers."""
    return late() - TAIL


def fork(count):
    """A box that has so many steps to another state, each with an answer of its own."""
    return wide(2, [0], [(0, "go", answer, 1) for answer in "abcdefghijklmnop"[:count]])


def quiet():
    """A box that only gives the empty row."""
    return Box(1, [0])


def chain(length):
    """A box that goes on with one sign so many times."""
    return wide(length + 1, [0], [(at, "go", "ok", at + 1) for at in range(length)])


class TestFewest(Refusals):
    def test_the_leave_outs_of_the_fewest_number(self):
        found = leave_outs(early(), headed())
        self.assertEqual(found, [[(0, "flip", "ok", 2)], [(2, "look", "tail", 3)]])
        self.assertEqual(fewest_left_out(early(), headed()), 1)
        self.assertEqual(leave_outs(other=headed(), one=late()), [[FLIP], [TAIL]])
        self.assertEqual(fewest_left_out(other=headed(), one=late()), 1)

    def test_no_step_to_leave_out(self):
        for one, other in ((late(), early()), (early(), late()), (headed(), late()), (quiet(), quiet())):
            self.assertEqual(leave_outs(one, other), [[]])
            self.assertEqual(fewest_left_out(one, other), 0)

    def test_three_steps_and_more_than_three(self):
        self.assertEqual(leave_outs(fork(2), quiet()), [fork(2).steps()])
        self.assertEqual((fewest_left_out(fork(3), quiet()), leave_outs(fork(3), quiet())), (3, [fork(3).steps()]))
        self.assertEqual((fewest_left_out(fork(4), quiet()), leave_outs(fork(4), quiet())), (None, []))
        self.assertEqual(fewest_left_out(fork(12), quiet()), None)
        self.assertEqual(fewest_left_out(fork(12), fork(9)), 3)
        self.assertEqual(fewest_left_out(fork(12), fork(8)), None)

    def test_all_leave_outs_each_once_and_sorted(self):
        self.assertEqual(leave_outs(chain(3), chain(2)), [[step] for step in chain(3)])
        one = Box(3, [0], [(0, "b", "x", 1), (0, "a", "x", 2), (2, "a", "x", 2), (1, "a", "x", 1)])
        other = Box(1, [0], [(0, "a", "x", 0)])
        self.assertEqual(leave_outs(one, other), [[(0, "b", "x", 1)]])
        two = Box(3, [0], [(0, "a", "x", 1), (1, "a", "x", 0), (0, "a", "y", 2), (2, "a", "y", 0)])
        brief = Box(3, [0], [(0, "a", "x", 1), (0, "a", "y", 2)])
        pairs = [(0, 1), (0, 3), (1, 2), (2, 3)]
        self.assertEqual(leave_outs(two, brief), [[two.steps()[first], two.steps()[second]] for first, second in pairs])

    def test_steps_that_are_not_reachable_are_kept(self):
        one = Box(3, [0], [(0, "go", "ok", 0), (1, "up", "ok", 2), (2, "up", "ok", 1)])
        self.assertEqual(leave_outs(one, ring(1)), [[]])
        self.assertEqual(leave_outs(one, quiet()), [[(0, "go", "ok", 0)]])

    def test_two_starts(self):
        self.assertEqual(leave_outs(early().with_starts([1, 2]), early().with_starts([1])), [[(2, "look", "tail", 3)]])

    def test_twelve_steps_and_thirteen(self):
        for deed in (fewest_left_out, leave_outs):
            deed(fork(12), fork(12))
            deed(chain(12), ring(7))
            deed(fork(3), fork(13))
            self.refuse(TooMany, ["steps", 12], deed, fork(13), fork(13))
            self.refuse(TooMany, ["steps", 12], deed, other=ring(8), one=chain(13))

    def test_seven_states_and_eight(self):
        for deed in (fewest_left_out, leave_outs):
            deed(ring(12), ring(7))
            self.refuse(TooMany, ["states", 7], deed, ring(7), ring(8))
            self.refuse(TooMany, ["states", 7], deed, other=wide(8), one=quiet())

    def test_what_is_told_is_new_and_what_is_passed_stays(self):
        one, other = early(), headed()
        found = leave_outs(one, other)
        found[0].clear()
        found.clear()
        leave_outs(late(), late())[0].append(FLIP)
        self.assertEqual(leave_outs(one, other), [[(0, "flip", "ok", 2)], [(2, "look", "tail", 3)]])
        self.assertEqual(leave_outs(late(), late()), [[]])
        self.assertEqual((parts(one), parts(other)), (parts(early()), parts(headed())))


class TestTree(Refusals):
    def test_depth_0(self):
        found = tree(late(), headed(), 0)
        self.assertEqual(found, ([FLIP, TAIL], {}))
        self.assertEqual([type(found), type(found[0]), type(found[1])], [tuple, list, dict])
        self.assertEqual(tree(depth=0, other=headed(), one=late()), found)

    def test_depth_1_and_2(self):
        self.assertEqual(tree(late(), headed(), 1), None)
        self.assertEqual(tree(late(), early(), 0), None)
        first, second = fork(2).steps()
        branches = {first: ([second], {})}
        self.assertIn(tree(fork(2), quiet(), 1), [([first], branches), ([second], {second: ([first], {})})])
        self.assertEqual(tree(fork(2), quiet(), 2), None)
        found = tree(fork(3), quiet(), 2)
        self.assertTrue(plain_more.is_tree(fork(3), quiet(), 2, found))

    def test_there_is_one_exactly_if_more_steps_are_needed(self):
        for count in range(6):
            for depth in range(3):
                found = tree(fork(count), quiet(), depth)
                self.assertIs(found is None, count <= depth)
                self.assertIs(is_tree(fork(count), quiet(), depth, found), count > depth)

    def test_the_keys_are_sorted_and_each_step_of_the_walk_once(self):
        back = chain(6).numbered([6, 5, 4, 3, 2, 1, 0])
        walk, branches = tree(back, chain(5), 0)
        self.assertEqual((walk, branches), (back.steps()[::-1], {}))
        first, second = [12, 11, 10, 9, 8, 7, 6], [12, 5, 4, 3, 2, 1, 0]
        two = wide(13, [12], [(a, "go", "ok", b) for ends in (first, second) for a, b in zip(ends, ends[1:])])
        walk, branches = tree(two, chain(5), 1)
        self.assertEqual((len(branches), list(branches)), (6, walk[::-1]))
        turns = Box(3, [2], [(2, "go", "ok", 1), (1, "go", "ok", 0), (0, "go", "ok", 2), (2, "go", "ok", 0), (0, "go", "ok", 0)])
        walk, branches = tree(turns, chain(5), 1)
        self.assertEqual((len(walk), list(branches)), (6, sorted(set(walk))))
        self.assertTrue(1 < len(branches) < 6)

    def test_depths_that_are_none(self):
        for value in wrong_numbers(0, 2):
            self.refuse(InvalidNumber, [value], tree, late(), headed(), value)
            self.refuse(InvalidNumber, [value], is_tree, late(), headed(), value, ([FLIP, TAIL], {}))
            self.refuse(InvalidNumber, [value], tree, depth=value, other=ring(8), one=chain(13))
            self.refuse(InvalidNumber, [value], is_tree, value=None, depth=value, other=ring(8), one=chain(13))

    def test_twelve_steps_and_thirteen_seven_states_and_eight(self):
        for depth in range(3):
            self.assertIs(is_tree(chain(12), chain(5), depth, tree(chain(12), chain(5), depth)), depth == 0)
            self.assertEqual(tree(fork(12), fork(13), depth), None)
            self.refuse(TooMany, ["steps", 12], tree, chain(13), chain(5), depth)
            self.refuse(TooMany, ["steps", 12], tree, fork(13), ring(8), depth)
            self.refuse(TooMany, ["states", 7], tree, fork(12), ring(8), depth)

    def test_what_is_told_is_new(self):
        found = tree(fork(3), quiet(), 2)
        found[1].clear()
        found[0].clear()
        self.assertTrue(is_tree(fork(3), quiet(), 2, tree(fork(3), quiet(), 2)))


class TestIsTree(unittest.TestCase):
    def check(self, value, wanted, depth=0, one=late(), other=headed()):
        self.assertIs(is_tree(one, other, depth, value), wanted, told(value))

    def test_depth_0(self):
        self.check(([FLIP, TAIL], {}), True)
        self.check(((FLIP, TAIL), {}), True)
        self.assertIs(is_tree(value=([FLIP, TAIL], {}), depth=0, other=headed(), one=late()), True)
        for wrong in (([FLIP, HEAD], {}), ([FLIP], {}), ([TAIL], {}), ([], {}), ([TAIL, FLIP], {}), ([FLIP, TAIL, TAIL], {}),
                      ([FLIP, TAIL], {FLIP: ([TAIL], {})}), ([FLIP, TAIL], {0: 0}), [[FLIP, TAIL], {}], ([FLIP, TAIL],),
                      ([FLIP, TAIL], {}, {}), ([FLIP, TAIL], None), ([FLIP, TAIL], []), ([FLIP, TAIL], ()), None,
                      ([[*FLIP], TAIL], {}), ([FLIP, (True, "look", "tail", 2)], {}), ([FLIP, (1, "look", "tail", 7)], {}),
                      ([(False, "flip", "ok", 1), TAIL], {}), ([FLIP, EqualToAll()], {}), ({FLIP: 1, TAIL: 1}, {})):
            self.check(wrong, False)

    def test_depth_1(self):
        first, second = fork(2).steps()
        good = ([first], {first: ([second], {})})
        self.check(good, True, 1, fork(2), quiet())
        self.check(([second], {second: ((first,), {})}), True, 1, fork(2), quiet())
        for depth in (0, 2):
            self.check(good, False, depth, fork(2), quiet())
        for wrong in (([first], {}), ([first], {second: ([first], {})}), ([first], {first: ([first], {})}),
                      ([first], {first: ([second], {}), second: ([first], {})}), ([first], {first: ([], {})}),
                      ([first], {first: None}), ([first], {first: ([second], {second: ([], {})})}), ([first], {None: 0}),
                      ([first], {(False, *first[1:]): ([second], {})}), ([first], {(*first[:3], True): ([second], {})}),
                      ([first], {EqualToAll(): ([second], {})}), ([first], [first, ([second], {})]), ([first], first)):
            self.check(wrong, False, 1, fork(2), quiet())

    def test_depth_2(self):
        a, b, c = fork(3).steps()
        good = ([a], {a: ([b], {b: ([c], {})})})
        self.check(good, True, 2, fork(3), quiet())
        self.check(good, True, 2, fork(5), quiet())
        self.check(good, False, 1, fork(3), quiet())
        self.check(([a], {a: ([b], {b: ([a], {})})}), False, 2, fork(3), quiet())
        self.check(([a], {a: ([b], {b: ([b], {})})}), False, 2, fork(3), quiet())
        self.check(([a], {a: ([b], {})}), False, 2, fork(3), quiet())
        self.check(([a], {a: ([b], {c: ([c], {})})}), False, 2, fork(3), quiet())
        self.check(good, False, 2, fork(3), Box(2, [0], [(0, "go", "c", 1)]))

    def test_a_walk_that_goes_over_a_step_twice(self):
        twice = Box(1, [0], [(0, "go", "ok", 0), (0, "go", "no", 0)])
        ok, no = (0, "go", "ok", 0), (0, "go", "no", 0)
        other = Box(1, [0])
        self.check(([ok, ok], {ok: ([no, no], {})}), True, 1, twice, other)
        self.check(([ok, no], {no: ([ok], {}), ok: ([no], {})}), True, 1, twice, other)
        self.check(([ok, no], {no: ([no], {}), ok: ([no], {})}), False, 1, twice, other)
        self.check(([ok, no], {ok: ([no], {})}), False, 1, twice, other)

    def test_values_of_many_kinds(self):
        first, second = fork(2).steps()
        for value in unlike_values():
            for depth in range(3):
                self.check(value, False, depth)
            self.check((value, {}), False)
            if value != {} or isinstance(value, EqualToAll):
                self.check(([FLIP, TAIL], value), False)
            self.check(([first], {first: value}), False, 1, fork(2), quiet())
            self.check(([first], {first: (value, {})}), False, 1, fork(2), quiet())
            for place in range(3):
                walk = [FLIP, TAIL]
                walk.insert(place, value)
                self.check((walk, {}), False)

    def test_any_number_of_steps_and_states(self):
        self.check((chain(20).steps(), {}), True, 0, chain(20), chain(19))
        self.check((chain(20).steps(), {}), False, 0, chain(20), chain(20))
        many = fork(16)
        a, b, c = many.steps()[:3]
        self.check(([a], {a: ([b], {b: ([c], {})})}), True, 2, many, wide(30))


class TestFacts(unittest.TestCase):
    """Against a plain reckoning over many small boxes."""

    def test_leave_outs_and_trees(self):
        counts = {}
        apart = list(zip(plain.some_boxes(180, 347, 3, 9, plain.SIGNS), plain.some_boxes(180, 349, 2, 3, plain.SIGNS)))
        for one, other in plain.some_pairs(150, 317, 3, 8, plain.SIGNS) + apart:
            size, wanted = plain_more.leave_outs(one, other, 3)
            self.assertEqual(fewest_left_out(one, other), size)
            self.assertEqual(leave_outs(one, other), wanted)
            counts[size] = counts.get(size, 0) + 1
            for depth in range(3):
                found = tree(one, other, depth)
                self.assertIs(found is None, size is not None and size <= depth)
                if found is not None:
                    self.assertTrue(plain_more.is_tree(one, other, depth, found))
                    self.assertIs(is_tree(one, other, depth, found), True)
        self.assertTrue(len(counts) == 5 and min(counts.values()) > 10, counts)

    def test_which_values_are_trees(self):
        counts = {True: 0, False: 0}
        signs = plain.SIGNS[:2]
        for one, other in zip(plain.some_boxes(60, 331, 2, 4, signs), plain.some_boxes(60, 353, 2, 2, signs)):
            walks = [list(steps) for row in plain.rows_up_to(one, 2) for steps in plain.walked(one, one.starts(), row)]
            leaves = [(walk, {}) for walk in walks]
            grown = [(walk, {step: leaf for step in walk}) for walk in walks for leaf in leaves]
            for depth in range(3):
                for value in leaves + grown:
                    wanted = plain_more.is_tree(one, other, depth, value)
                    self.assertIs(is_tree(one, other, depth, value), wanted)
                    counts[wanted] += 1
        self.assertTrue(min(counts.values()) > 100, counts)

    def test_the_plain_reckoning_of_standing_is_that_by_rows(self):
        for one, other in plain.some_pairs(150, 337, 2, 6, plain.SIGNS[:2]):
            self.assertIs(plain_more.stands(one, other), plain.first_missing(one, other, 6) is None)


if __name__ == "__main__":
    unittest.main()
