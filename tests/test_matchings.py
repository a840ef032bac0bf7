"""Points [2], [41] to [43]: pairs, matchings, and the greatest ones."""

import unittest

from aheadbehind.basics import is_integer
from aheadbehind.boxes import Box
from aheadbehind.errors import InvalidMatching, InvalidPairs, InvalidState, NoMatching, NotMatched
from aheadbehind.matchings import Backward, Both, Forward, Matching, backward_kept, forward_kept
from tests import plain
from tests.refusals import Refusals
from tests.values import EqualToAll, early, late, parts, ring, told, unlike_values, wrong_lists, wrong_states

CLASSES = (Matching, Forward, Backward, Both)
BACK = [(0, 0), (1, 1), (1, 2), (2, 3)]
ON = [(0, 0), (1, 1), (2, 1), (3, 2)]
SPIN = ("go", "ok")


def spin(states, starts=(0,)):
    """A box that goes with one sign from each state to each state."""
    return Box(states, list(starts), [(a, *SPIN, b) for a in range(states) for b in range(states)])


def whole(kind, one, other):
    """The object of a class with all pairs."""
    return kind(one, other, Matching.all_pairs(one, other))


class TestMatching(unittest.TestCase):
    def test_any_pairs(self):
        found = Matching(early(), late(), [(3, 0), (0, 2), (1, 1)])
        self.assertEqual((found.one, found.other), (early(), late()))
        self.assertEqual(found.pairs(), [(0, 2), (1, 1), (3, 0)])
        self.assertEqual(Matching(pairs=((3, 0),), other=late(), one=early()).pairs(), [(3, 0)])
        self.assertEqual((Matching(late(), late(), []).pairs(), len(Matching(late(), late(), ()))), ([], 0))

    def test_partners(self):
        found = Matching(late(), early(), [(1, 2), (0, 0), (1, 1)])
        self.assertEqual([found.partners(state) for state in range(3)], [[0], [1, 2], []])
        self.assertEqual(found.partners(state=1), [1, 2])
        lonely = Box(3, [1], [(1, "go", "ok", 0)])
        self.assertEqual(Matching(lonely, lonely, [(0, 2)]).partners(2), [])

    def test_all_pairs(self):
        lonely = Box(3, [1], [(1, "go", "ok", 0)])
        self.assertEqual(Matching.all_pairs(lonely, late()), [(0, 0), (0, 1), (0, 2), (1, 0), (1, 1), (1, 2)])
        self.assertEqual(Matching.all_pairs(other=lonely, one=Box(1, [0])), [(0, 0), (0, 1), (0, 2)])
        self.assertEqual(Forward.all_pairs(Box(1, [0]), Box(1, [0])), [(0, 0)])

    def test_len_and_in(self):
        found = Matching(late(), early(), BACK)
        self.assertEqual(len(found), 4)
        self.assertTrue(all(pair in found for pair in BACK))
        wrong = [
            (0, 1), (2, 2), (0, 0, 0), (0,), (), [0, 0], [1, 1], (True, 1), (1, True), (False, 0), (0, False), (9, 9),
            (EqualToAll(), 0), (0, EqualToAll()), "00", b"\x00\x00", {0: 0}, ((0, 0),), (None, 0),
        ]
        for value in wrong:
            self.assertIs(value in found, False, told(value))
        for value in unlike_values():
            wanted = type(value) is tuple and value == (0, 0) and not any(isinstance(part, bool) for part in value)
            self.assertIs(value in found, wanted, told(value))

    def test_equal(self):
        found = Matching(late(), early(), BACK)
        self.assertTrue(found == Matching(late(), early(), BACK[::-1]))
        self.assertFalse(found != Matching(late(), early(), tuple(BACK)))
        self.assertFalse(found == Matching(late(), early(), BACK[1:]))
        self.assertFalse(found == Matching(late(), early() + (3, "go", "ok", 3), BACK))
        self.assertFalse(found == Matching(late() + (2, "go", "ok", 2), early(), BACK))
        for value in unlike_values():
            if not isinstance(value, EqualToAll):
                self.assertIs(found == value, False, told(value))
        self.assertIs(found == BACK, False)

    def test_classes_are_not_equal(self):
        objects = [kind(ring(1), ring(1), [(0, 0)]) for kind in CLASSES]
        for first, one in enumerate(objects):
            for second, two in enumerate(objects):
                self.assertIs(one == two, first == second)

    def test_repr(self):
        for kind in CLASSES:
            self.assertEqual(repr(kind(ring(1), ring(1), [(0, 0)])), kind.__name__ + "([(0, 0)])")
        self.assertEqual(repr(Matching(late(), early(), [(2, 0), (0, 1)])), "Matching([(0, 1), (2, 0)])")
        self.assertEqual(repr(Matching(late(), early(), [])), "Matching([])")
        self.assertEqual(str(Backward(late(), early(), BACK[::-1])), "Backward(" + repr(BACK) + ")")


class TestInvalidPairs(Refusals):
    def is_pair(self, value):
        """Whether a value is a pair of early and late, all of whose states are reachable."""
        return (type(value) is tuple and len(value) == 2 and all(is_integer(part) for part in value)
                and 0 <= value[0] < 4 and 0 <= value[1] < 3)

    def test_values_of_many_kinds_at_each_place(self):
        for kind in CLASSES:
            for pairs, position in wrong_lists([(0, 1), (3, 2)], self.is_pair):
                self.refuse(InvalidPairs, [position], kind, early(), late(), pairs)

    def test_pairs_that_are_none(self):
        lonely = Box(4, [1], [(1, "go", "ok", 2), (0, "go", "ok", 3)])
        values = [
            (0, 0), (3, 0), (1, 3), (1, -1), (-1, 0), (4, 0), (1, 0, 0), (1,), [1, 0], (1, True), (True, 1), (1, False),
            (1, "0"), ((1, 0),), (1, None), (EqualToAll(), 1), (1, EqualToAll()),
        ]
        for kind in CLASSES:
            for wrong in values:
                self.refuse(InvalidPairs, [0], kind, lonely, late(), [wrong])
                self.refuse(InvalidPairs, [2], kind, lonely, late(), [(1, 0), (2, 2), wrong, wrong])
        self.assertEqual(Matching(lonely, late(), [(1, 0), (2, 2)]).pairs(), [(1, 0), (2, 2)])
        self.assertEqual(Matching(late(), lonely, [(0, 3), (2, 0)]).pairs(), [(0, 3), (2, 0)])

    def test_a_pair_twice_is_wrong_at_its_second_place(self):
        for kind in CLASSES:
            self.refuse(InvalidPairs, [1], kind, late(), early(), [(0, 0), (0, 0)])
            self.refuse(InvalidPairs, [3], kind, late(), early(), ((0, 0), (1, 1), (2, 2), (1, 1), None))

    def test_they_are_looked_at_ahead_of_the_rules(self):
        for kind in (Forward, Backward, Both):
            self.refuse(InvalidPairs, [1], kind, late(), early(), [(0, 3), None])
            self.refuse(InvalidPairs, [None], kind, pairs=None, other=early(), one=late())

    def test_states(self):
        for matching in (Matching(early(), late(), []), Forward(early(), late(), ON)):
            for value in wrong_states(4):
                self.refuse(InvalidState, [value], matching.partners, value)


class TestNotMatched(Refusals):
    def test_matchings(self):
        self.assertEqual(Forward(early(), late(), ON).pairs(), ON)
        self.assertEqual(Backward(late(), early(), BACK[::-1]).pairs(), BACK)
        self.assertEqual(Both(late(), late(), [(0, 0), (1, 1), (2, 2)]).partners(1), [1])
        self.assertEqual(len(Forward(Box(1, [0]), Box(2, [1]), [(0, 1)])), 1)
        self.assertEqual(len(Both(pairs=[(0, 0)], other=ring(1), one=ring(1))), 1)

    def test_the_first_pair_that_breaks_the_forward_rule(self):
        self.refuse(NotMatched, [(1, 1)], Forward, late(), early(), BACK)
        self.refuse(NotMatched, [(0, 0)], Forward, late(), early(), [(0, 0)])
        self.refuse(NotMatched, [(1, 0)], Forward, early(), late(), ON + [(1, 0)])
        self.refuse(NotMatched, [(1, 2)], Forward, early(), late(), [(2, 2), (3, 0), (1, 2)])
        self.refuse(NotMatched, [(0, 1)], Forward, pairs=[(1, 0), (0, 1)], other=late(), one=late())

    def test_a_start_without_a_pair(self):
        self.refuse(NotMatched, [None], Forward, early(), late(), [])
        self.refuse(NotMatched, [None], Forward, early(), late(), ON[1:])
        self.refuse(NotMatched, [None], Forward, Box(2, [0, 1]), Box(2, [0]), [(0, 0), (1, 1)])
        self.refuse(NotMatched, [None], Forward, Box(2, [0, 1]), Box(2, [0, 1]), [(1, 0), (1, 1)])
        self.assertEqual(len(Forward(Box(2, [0, 1]), Box(2, [0]), [(0, 0), (1, 0), (1, 1)])), 3)

    def test_the_first_pair_that_breaks_the_backward_rule(self):
        self.refuse(NotMatched, [(0, 1)], Backward, late(), early(), BACK + [(0, 1)])
        self.refuse(NotMatched, [(1, 0)], Backward, late(), early(), [(1, 0), (2, 3), (0, 0)])
        self.refuse(NotMatched, [(2, 3)], Backward, late(), early(), [(2, 3), (1, 1), (0, 0)])
        self.refuse(NotMatched, [(2, 3)], Backward, late(), early(), [(2, 3), (0, 0)])
        self.refuse(NotMatched, [(0, 1)], Backward, Box(1, [0]), Box(2, [0]), [(0, 0), (0, 1)])

    def test_steps_from_states_that_are_not_reachable_ask_for_nothing(self):
        one = Box(3, [0], [(0, "go", "ok", 1), (2, "no", "no", 1), (2, "go", "ok", 0)])
        other = Box(2, [0], [(0, "go", "ok", 1)])
        self.assertEqual(len(Backward(one, other, [(0, 0), (1, 1)])), 2)
        self.assertEqual(len(Both(one, other, [(0, 0), (1, 1)])), 2)

    def test_a_reachable_state_without_a_pair(self):
        self.refuse(NotMatched, [None], Backward, late(), early(), [])
        self.refuse(NotMatched, [None], Backward, late(), early(), BACK[:3])
        self.refuse(NotMatched, [None], Backward, Box(2, [0, 1]), Box(2, [0, 1]), [(1, 0)])

    def test_a_pair_that_breaks_the_rule_is_ahead_of_what_lacks(self):
        self.refuse(NotMatched, [(2, 3)], Backward, late(), early(), [(2, 3)])
        self.refuse(NotMatched, [(1, 1)], Forward, late(), early(), [(1, 1)])

    def test_both_are_asked_for_forward_then_backward(self):
        self.refuse(NotMatched, [(1, 1)], Both, late(), early(), BACK)
        self.refuse(NotMatched, [None], Both, early(), late(), ON[1:])
        self.refuse(NotMatched, [(3, 0)], Both, early(), late(), ON[:3] + [(3, 0), (3, 2)])
        one, other = Box(2, [0], [(0, "go", "ok", 1)]), Box(2, [0], [(0, "go", "ok", 1)])
        self.refuse(NotMatched, [(1, 0)], Both, one, other, [(0, 0), (1, 1), (1, 0)])
        self.refuse(NotMatched, [None], Both, one, other, [])
        self.refuse(NotMatched, [(0, 1)], Both, one, other, [(1, 0), (0, 1)])
        # No step goes from 1, so nothing is wrong forward; backward the one has no step to it that the other has.
        one = Box(2, [0, 1])
        self.refuse(NotMatched, [None], Both, one, other, [(0, 0)])
        self.refuse(NotMatched, [(1, 1)], Both, one, other, [(0, 0), (1, 0), (1, 1)])


class TestPartOf(Refusals):
    def test_each_pair_is_one_of_the_further(self):
        for kind in CLASSES:
            box = spin(2, [0, 1])
            less, more = kind(box, box, [(0, 0), (1, 1)]), whole(kind, box, box)
            self.assertIs(less.is_part_of(more), True)
            self.assertIs(less.is_part_of(further=less), True)
            self.assertIs(more.is_part_of(less), False)
            self.assertIs(less.is_part_of(kind(box, box, [(0, 1), (1, 0)])), False)
        self.assertIs(Matching(late(), early(), []).is_part_of(Matching(late(), early(), [])), True)

    def test_values_of_many_kinds(self):
        for kind in CLASSES:
            matching = whole(kind, ring(1), ring(1))
            wrong = unlike_values() + [[(0, 0)]]
            wrong += [whole(kind, ring(1), spin(2, [0, 1])), whole(kind, spin(2, [0, 1]), ring(1))]
            wrong += [whole(other, ring(1), ring(1)) for other in CLASSES if other is not kind]
            for value in wrong:
                self.refuse(InvalidMatching, [value], matching.is_part_of, value)
                self.refuse(InvalidMatching, [value], lambda value: matching | value, value)


class TestOr(unittest.TestCase):
    def test_the_pairs_of_both(self):
        box = spin(2, [0, 1])
        for kind in CLASSES:
            first, second = kind(box, box, [(0, 0), (1, 1)]), kind(box, box, [(0, 1), (1, 0), (1, 1)])
            found = first | second
            self.assertIs(type(found), kind)
            self.assertEqual(found, whole(kind, box, box))
            self.assertEqual((first.pairs(), second.pairs()), ([(0, 0), (1, 1)], [(0, 1), (1, 0), (1, 1)]))
            self.assertEqual(first | first, first)
        self.assertEqual((Matching(box, box, [(1, 0)]) | Matching(box, box, [])).pairs(), [(1, 0)])

    def test_in_place_the_first_one_stays(self):
        box = spin(2, [0, 1])
        found = first = Matching(box, box, [(0, 0)])
        found |= Matching(box, box, [(1, 0)])
        self.assertEqual((first.pairs(), found.pairs()), ([(0, 0)], [(0, 0), (1, 0)]))


class TestThrough(Refusals):
    def test_pairs_through_a_box_between(self):
        on = Matching(early(), late(), [(3, 1), (3, 2), (0, 0)])
        found = Matching(late(), early(), [(0, 0), (1, 3), (2, 2)]) >> on
        self.assertEqual(found, Matching(late(), late(), [(0, 0), (1, 1), (1, 2)]))
        self.assertEqual((Matching(late(), early(), []) >> Matching(early(), late(), ON)).pairs(), [])

    def test_the_class_stays(self):
        forward = Forward(early(), late(), ON) >> Forward(late(), late(), [(0, 0), (1, 1), (2, 2)])
        self.assertEqual((type(forward), forward), (Forward, Forward(early(), late(), ON)))
        back = Backward(late(), late(), [(0, 0), (1, 1), (2, 2)]) >> Backward(late(), early(), BACK)
        self.assertEqual((type(back), back), (Backward, Backward(late(), early(), BACK)))
        both = Both(ring(2), ring(1), [(0, 0), (1, 0)]) >> whole(Both, ring(1), ring(1))
        self.assertEqual((type(both), both.one, both.other, both.pairs()), (Both, ring(2), ring(1), [(0, 0), (1, 0)]))

    def test_each_pair_once(self):
        box = spin(2, [0, 1])
        for kind in CLASSES:
            self.assertEqual(whole(kind, box, box) >> whole(kind, box, box), whole(kind, box, box))

    def test_values_of_many_kinds(self):
        for kind in CLASSES:
            matching = whole(kind, ring(1), ring(1))
            wrong = unlike_values() + [whole(other, ring(1), ring(1)) for other in CLASSES if other is not kind]
            wrong += [whole(kind, spin(2, [0, 1]), ring(1)), ring(1), [(0, 0)]]
            for value in wrong:
                self.refuse(InvalidMatching, [value], lambda value: matching >> value, value)
            self.assertEqual((matching >> whole(kind, ring(1), spin(2, [0, 1]))).pairs(), [(0, 0), (0, 1)])


class TestGreatest(Refusals):
    def test_the_greatest_ones(self):
        self.assertEqual(Backward.greatest(late(), early()), Backward(late(), early(), BACK))
        self.assertEqual(Forward.greatest(early(), late()).pairs(), [(0, 0), (1, 1), (2, 1), (3, 0), (3, 1), (3, 2)])
        self.assertEqual(Both.greatest(other=late(), one=late()).pairs(), [(0, 0), (1, 1), (2, 2)])
        for kind in (Forward, Backward, Both):
            one, other = spin(2, [0, 1]), spin(3, [0, 1, 2])
            self.assertEqual(kind.greatest(one, other), whole(kind, one, other))
            self.assertIs(type(kind.greatest(ring(1), ring(1))), kind)

    def test_there_is_none(self):
        self.refuse(NoMatching, [], Forward.greatest, late(), early())
        self.refuse(NoMatching, [], Backward.greatest, early(), late() - (1, "look", "tail", 2))
        self.refuse(NoMatching, [], Both.greatest, late(), early())
        self.refuse(NoMatching, [], Both.greatest, other=early(), one=late())
        self.refuse(NoMatching, [], Forward.greatest, Box(1, [0], [(0, "go", "ok", 0)]), Box(1, [0]))

    def test_any_number_of_states(self):
        self.assertEqual(len(Forward.greatest(ring(20), ring(10))), 200)
        self.assertEqual(Both.greatest(ring(20), ring(10)).partners(19), [9])
        self.assertEqual(len(Backward.greatest(ring(9), ring(1))), 9)

    def test_both_have_fewer_pairs_than_the_greatest_have_in_common(self):
        found = 0
        for one, other in plain.some_pairs(300, 37, 3, 6, plain.SIGNS[:2]):
            if plain.has_forward(one, other) and plain.has_backward(one, other):
                common = set(Forward.greatest(one, other).pairs()) & set(Backward.greatest(one, other).pairs())
                try:
                    found += len(Both.greatest(one, other)) < len(common)
                except NoMatching:
                    found += 1
        self.assertTrue(found > 0)

    def test_kept(self):
        self.assertEqual(forward_kept(late(), early()), [(2, 0), (2, 1), (2, 2), (2, 3)])
        self.assertEqual(backward_kept(late(), early()), BACK)
        self.assertEqual(forward_kept(one=Box(1, [0], [(0, *SPIN, 0)]), other=Box(2, [1])), [])
        self.assertEqual(backward_kept(other=Box(2, [1]), one=Box(1, [0])), [(0, 1)])


class TestNothingChanges(unittest.TestCase):
    def test_what_is_passed_and_told(self):
        one, other, pairs = late(), early(), list(BACK[::-1])
        before = parts(one), parts(other)
        for kind in (Matching, Backward):
            found = kind(one, other, pairs)
            self.assertEqual(pairs, BACK[::-1])
            found.pairs().clear()
            found.partners(1).clear()
            pairs.clear()
            self.assertEqual((found.pairs(), found.partners(1), len(found)), (BACK, [1, 2], 4))
            pairs.extend(BACK[::-1])
        Matching.all_pairs(one, other).clear()
        forward_kept(one, other).clear()
        self.assertEqual(len(forward_kept(one, other)), 4)
        self.assertEqual((parts(one), parts(other)), before)


class TestFacts(unittest.TestCase):
    """Against a plain reckoning of the definitions over many pairs of small boxes."""

    def boxes(self):
        return plain.some_pairs(60, 41, 2, 5, plain.SIGNS[:2]) + [
            (one, other) for one, other in plain.some_pairs(60, 43, 3, 6, plain.SIGNS) if one.states * other.states < 9
        ]

    def test_matchings_and_what_they_break(self):
        for one, other in self.boxes():
            for pairs in plain.parts_of(plain.all_pairs(one, other))[::3]:
                wrong = {
                    Forward: (plain.breaks_forward(one, other, pairs), plain.lacks_forward(one, other, pairs)),
                    Backward: (plain.breaks_backward(one, other, pairs), plain.lacks_backward(one, other, pairs)),
                }
                for kind, (broken, lacking) in wrong.items():
                    try:
                        kind(one, other, pairs[::-1])
                        self.assertEqual((broken, lacking), ([], False))
                    except NotMatched as error:
                        self.assertEqual(error.value, broken[0] if broken else None)
                        self.assertTrue(broken or lacking)

    def test_the_greatest_is_the_union_of_all(self):
        counts = [0, 0]
        for one, other in self.boxes():
            parts_of_pairs = plain.parts_of(plain.all_pairs(one, other))
            for kept, kind, breaks, lacks in (
                (forward_kept, Forward, plain.breaks_forward, plain.lacks_forward),
                (backward_kept, Backward, plain.breaks_backward, plain.lacks_backward),
            ):
                keeping = [pairs for pairs in parts_of_pairs if not breaks(one, other, pairs)]
                union = sorted({pair for pairs in keeping for pair in pairs})
                self.assertEqual(kept(one, other), union)
                if any(not lacks(one, other, pairs) for pairs in keeping):
                    self.assertEqual(kind.greatest(one, other).pairs(), union)
                    self.assertEqual(plain.first_missing(one, other, 4), None)
                    counts[0] += 1
                else:
                    counts[1] += 1
                    with self.assertRaises(NoMatching):
                        kind.greatest(one, other)
        self.assertTrue(min(counts) > 40, counts)

    def test_the_greatest_of_both(self):
        for one, other in self.boxes():
            found = [
                pairs for pairs in plain.parts_of(plain.all_pairs(one, other))
                if plain.is_forward(one, other, pairs) and plain.is_backward(one, other, pairs)
            ]
            if found:
                union = sorted({pair for pairs in found for pair in pairs})
                self.assertEqual(Both.greatest(one, other).pairs(), union)
            else:
                with self.assertRaises(NoMatching):
                    Both.greatest(one, other)


if __name__ == "__main__":
    unittest.main()
