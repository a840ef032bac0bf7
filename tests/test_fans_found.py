"""Points [54] to [56]: built and thin fans, fans of matchings, the greatest fans, and falls."""

import unittest

from aheadbehind.boxes import Box
from aheadbehind.errors import InvalidMatching, InvalidNumber, NoFan, NotStanding, TooMany
from aheadbehind.fans import Guessing, Remembering
from aheadbehind.matchings import Backward, Both, Forward, Matching
from aheadbehind.standing import stands_for
from tests import plain, plain_fans
from tests.refusals import Refusals
from tests.values import MOST_DIGITS, EqualToAll, early, late, parts, ring, told, unlike_values, wide, wrong_numbers

KINDS = {"remembering": Remembering, "guessing": Guessing}
FLIP = ("flip", "ok")
TAIL = ("look", "tail")
GO = (0, "go", "ok", 1)


def headed():
    """The box late without one of its answers."""
    return late() - (1, "look", "tail", 2)


def choosing(count):
    """A box that chooses at go, unseen, which one of so many answers it will give."""
    steps = [(0, "go", "ok", state) for state in range(1, count + 1)]
    return wide(count + 1, [0], steps + [(state, "say", "abcdefgh"[state], 0) for state in range(1, count + 1)])


def speaking(count):
    """A box that chooses at say which one of so many answers it gives."""
    return Box(2, [0], [GO] + [(1, "say", "abcdefgh"[state], 0) for state in range(1, count + 1)])


def chosen(count):
    """For a speaking box and a choosing one, fans of both kinds; all states in one set, or one in each set."""
    every = tuple(range(1, count + 1))
    return {0: [(0,)], 1: [every]}, {0: [(0,)], 1: [(state,) for state in every]}


class TestBuilt(Refusals):
    def test_remembering(self):
        self.assertEqual(Remembering.built(late(), early()).sets(), {0: [(0,)], 1: [(1, 2)], 2: [(3,)]})
        self.assertEqual(Remembering.built(early(), late()).sets(), {0: [(0,)], 1: [(1,)], 2: [(1,)], 3: [(2,)]})
        found = Remembering.built(other=choosing(3), one=speaking(3))
        self.assertIs(type(found), Remembering)
        self.assertEqual(found.sets(), chosen(3)[0])

    def test_guessing(self):
        wanted = {0: [(0,), (0, 1, 2, 3)], 1: [(0, 1, 2, 3), (1,), (2,)], 2: [(0, 1, 2, 3)]}
        self.assertEqual(Guessing.built(late(), early()).sets(), wanted)
        found = Guessing.built(other=late(), one=early())
        self.assertIs(type(found), Guessing)
        every = (0, 1, 2)
        self.assertEqual(found.sets(), {0: [(0,), every], 1: [every, (1,)], 2: [every, (1,)], 3: [every]})

    def test_thin_ones(self):
        self.assertEqual(Remembering.thin(late(), early()).sets(), {0: [(0,)], 1: [(1, 2)], 2: [(3,)]})
        self.assertEqual(Guessing.thin(late(), early()).sets(), {0: [(0,)], 1: [(1,), (2,)], 2: [(0, 1, 2, 3)]})
        self.assertEqual(Guessing.thin(other=choosing(2), one=speaking(2)).sets(), chosen(2)[1])
        one = Box(2, [0], [(0, "go", "ok", 0), (0, "go", "no", 1)])
        other = Box(3, [0, 1], [(0, "go", "ok", 0), (0, "go", "no", 2), (1, "go", "no", 2)])
        self.assertEqual(Remembering.built(one, other).sets(), {0: [(0,), (0, 1)], 1: [(2,)]})
        self.assertEqual(Remembering.thin(one, other).sets(), {0: [(0,)], 1: [(2,)]})
        self.assertEqual([type(kind.thin(one, other)) for kind in KINDS.values()], list(KINDS.values()))

    def test_states_that_are_not_reachable(self):
        one = Box(3, [0], [(0, "go", "ok", 2), (1, "go", "no", 2)])
        other = Box(2, [0], [(0, "go", "ok", 1)])
        self.assertEqual(Remembering.built(one, other).sets(), {0: [(0,)], 2: [(1,)]})
        self.assertEqual(Guessing.built(one, other).sets(), {0: [(0,), (0, 1)], 2: [(0, 1)]})

    def test_it_does_not_stand_for_it(self):
        for kind in KINDS.values():
            for deed in (kind.built, kind.thin):
                self.refuse(NotStanding, [[FLIP, TAIL]], deed, late(), headed())
                self.refuse(NotStanding, [[FLIP]], deed, other=Box(6, [1]), one=early())

    def test_the_other_is_limited(self):
        for kind in KINDS.values():
            for deed in (kind.built, kind.thin):
                self.refuse(TooMany, ["states", 7], deed, late(), wide(8))
                self.refuse(TooMany, ["states", 7], deed, ring(8), ring(8))
                self.assertEqual(len(deed(ring(14), ring(7)).sets()), 14)


class TestOfMatchings(Refusals):
    def setUp(self):
        self.forward = Forward.greatest(early(), late())
        self.backward = Backward.greatest(late(), early())
        self.both = Both.greatest(late(), late())

    def test_of_singles(self):
        found = Remembering.of_singles(self.forward)
        self.assertEqual(found, Remembering(early(), late(), {
            0: [(0,)], 1: [(1,)], 2: [(1,)], 3: [(0,), (1,), (2,)],
        }))
        found = Guessing.of_singles(matching=self.backward)
        self.assertEqual(found, Guessing(late(), early(), {0: [(0,)], 1: [(1,), (2,)], 2: [(3,)]}))

    def test_of_partners(self):
        found = Remembering.of_partners(self.backward)
        self.assertEqual(found, Remembering(late(), early(), {0: [(0,)], 1: [(1, 2)], 2: [(3,)]}))
        found = Guessing.of_partners(matching=self.forward)
        self.assertEqual(found, Guessing(early(), late(), {0: [(0,)], 1: [(1,)], 2: [(1,)], 3: [(0, 1, 2)]}))

    def test_both_are_of_each_kind(self):
        sets = {0: [(0,)], 1: [(1,)], 2: [(2,)]}
        for kind in KINDS.values():
            self.assertEqual(kind.of_singles(self.both), kind(late(), late(), sets))
            self.assertEqual(kind.of_partners(self.both), kind(late(), late(), sets))

    def test_states_that_are_not_reachable(self):
        one = Box(2, [1], [(0, "go", "ok", 1)])
        both = Both(one, Box(1, [0]), [(1, 0)])
        for kind in KINDS.values():
            self.assertEqual((kind.of_singles(both).sets(), kind.of_partners(both).sets()), ({1: [(0,)]},) * 2)

    def test_values_of_many_kinds(self):
        wrong = unlike_values() + [self.both.pairs(), early(), Forward, Both, Remembering.thin(late(), early())]
        wrong.append(Matching(late(), late(), self.both.pairs()))
        for value in wrong + [self.backward]:
            self.refuse(InvalidMatching, [value], Remembering.of_singles, value)
            self.refuse(InvalidMatching, [value], Guessing.of_partners, matching=value)
        for value in wrong + [self.forward]:
            self.refuse(InvalidMatching, [value], Guessing.of_singles, value)
            self.refuse(InvalidMatching, [value], Remembering.of_partners, matching=value)


class TestGreatest(Refusals):
    def test_of_a_girth(self):
        self.assertEqual(Remembering.greatest(ring(1), ring(1), girth=1).sets(), {0: [(0,)]})
        found = Remembering.greatest(late(), early(), girth=2)
        self.assertIs(type(found), Remembering)
        few = [chosen for chosen in plain_fans.all_sets(4, 2)]
        self.assertEqual(found.sets(), {0: [(0,), (0, 1), (0, 2), (0, 3)], 1: [(1, 2)], 2: few})
        found = Guessing.greatest(other=early(), one=late(), girth=1)
        self.assertIs(type(found), Guessing)
        self.assertEqual(found.sets(), {0: [(0,)], 1: [(1,), (2,)], 2: [(3,)]})
        self.assertEqual(len(Guessing.greatest(late(), early(), girth=4)[2]), 8)

    def test_there_is_none(self):
        self.refuse(NoFan, [1], Remembering.greatest, late(), early(), girth=1)
        self.refuse(NoFan, [2], Remembering.greatest, speaking(3), choosing(3), girth=2)
        self.assertEqual(Remembering.greatest(speaking(3), choosing(3), girth=3)[1], [(1, 2, 3)])
        for kind in KINDS.values():
            for girth in (1, 2, 3):
                self.refuse(NoFan, [girth], kind.greatest, late(), headed(), girth=girth)

    def test_the_girth(self):
        for kind in KINDS.values():
            for deed in (kind.greatest, kind.falls):
                for value in wrong_numbers(1, 4):
                    self.refuse(InvalidNumber, [value], deed, late(), early(), girth=value)
                self.refuse(InvalidNumber, [5], deed, late(), early(), girth=5)
                self.refuse(InvalidNumber, [0], deed, late(), early(), girth=0)
                self.refuse(InvalidNumber, [2], deed, late(), ring(1), girth=2)
                self.refuse(InvalidNumber, [8], deed, late(), ring(7), girth=8)
                self.refuse(InvalidNumber, [True], deed, late(), ring(7), girth=True)

    def test_the_girth_is_passed_by_name(self):
        for kind in KINDS.values():
            for deed in (kind.greatest, kind.falls):
                with self.assertRaises(TypeError):
                    deed(ring(1), ring(1), 1)
            with self.assertRaises(TypeError):
                kind.are_falls(ring(1), ring(1), [], 1)

    def test_five_states_and_six(self):
        for kind in KINDS.values():
            self.assertEqual(len(kind.greatest(ring(1), wide(5, [0], ring(1).steps()), girth=5)[0]), 16)
            self.assertEqual(kind.falls(ring(9), ring(5), girth=5), None)
            self.assertEqual(kind.least_girth(ring(10), ring(5)), 1)
            self.assertIs(kind.are_falls(ring(10), ring(5), [], girth=1), False)
            for deed in (kind.greatest, kind.falls):
                self.refuse(TooMany, ["states", 5], deed, ring(1), ring(6), girth=6)
                self.refuse(TooMany, ["states", 5], deed, late(), wide(9), girth=1)
            self.refuse(TooMany, ["states", 5], kind.least_girth, ring(1), ring(6))
            self.refuse(TooMany, ["states", 5], kind.least_girth, late(), wide(8))
            self.refuse(TooMany, ["states", 5], kind.are_falls, ring(1), ring(6), [], girth=0)

    def test_least_girth(self):
        self.assertEqual((Remembering.least_girth(late(), early()), Guessing.least_girth(late(), early())), (2, 1))
        self.assertEqual(Remembering.least_girth(other=late(), one=early()), 1)
        self.assertEqual(Guessing.least_girth(early(), late()), 1)
        for count in (1, 2, 3, 4):
            self.assertEqual(Remembering.least_girth(speaking(count), choosing(count)), count)
            self.assertEqual(Guessing.least_girth(speaking(count), choosing(count)), 1)
        turned = Box(3, [0], [(0, "a", "a", 1), (0, "a", "b", 1), (1, "b", "a", 2), (1, "b", "b", 2)])
        other = Box(5, [0], [(0, "a", "a", 1), (0, "a", "b", 2), (1, "b", "a", 3), (1, "b", "b", 3),
                             (2, "b", "a", 4), (2, "b", "b", 4)])
        self.assertEqual((Remembering.least_girth(turned, other), Guessing.least_girth(turned, other)), (1, 2))

    def test_least_girth_where_it_does_not_stand_for_it(self):
        for kind in KINDS.values():
            self.refuse(NotStanding, [[FLIP, TAIL]], kind.least_girth, late(), headed())
            self.refuse(NotStanding, [[FLIP]], kind.least_girth, other=Box(5, [0]), one=late())


class TestFalls(Refusals):
    def test_there_are_none_where_there_is_a_fan(self):
        self.assertEqual(Remembering.falls(late(), early(), girth=2), None)
        self.assertEqual(Guessing.falls(other=early(), one=late(), girth=1), None)

    def test_found_ones(self):
        for word, kind in KINDS.items():
            for one, other in ((late(), headed()), (early(), headed()), (late(), Box(2, [1, 0]))):
                for girth in range(1, other.states + 1):
                    falls = kind.falls(one, other, girth=girth)
                    self.assertIs(type(falls), list)
                    self.assertIs(kind.are_falls(one, other, falls, girth=girth), True)
                    self.assertIs(kind.are_falls(one, other, tuple(falls), girth=girth), True)
                    self.assertTrue(plain_fans.are_falls(word, one, other, falls, girth))
        falls = Remembering.falls(late(), early(), girth=1)
        self.assertTrue(plain_fans.are_falls("remembering", late(), early(), falls, 1))
        falls.clear()
        self.assertTrue(len(Remembering.falls(late(), early(), girth=1)) > 2)

    def test_remembering_ones(self):
        flip, head, tail = (0, "flip", "ok", 1), (1, "look", "head", 2), (1, "look", "tail", 2)
        falls = [(1, (1,), tail), (1, (2,), head), (0, (0,), flip)]
        self.check(Remembering, falls, 1, True)
        self.check(Remembering, falls[::-1], 1, False)
        self.check(Remembering, falls[1:], 1, False)
        self.check(Remembering, falls[:2], 1, False)
        self.check(Remembering, falls + falls[:1], 1, False)
        self.check(Remembering, falls, 2, False)
        self.check(Remembering, [(1, (1,), None)] + falls, 1, False)
        self.check(Remembering, [(0, (0,), None)], 1, False)
        two = [(1, (1, 2), tail)] + falls
        self.check(Remembering, two, 2, False)
        self.check(Remembering, falls + [(1, (0, 3), tail)], 1, False)

    def test_guessing_ones(self):
        other = early().with_starts([3])
        falls = [(0, (0,), None), (0, (1,), None), (0, (2,), None), (1, (1,), (0, "flip", "ok", 1))]
        stuck = [(1, (0,), (0, "flip", "ok", 1)), (1, (2,), (0, "flip", "ok", 1)), (1, (3,), (0, "flip", "ok", 1))]
        self.check(Guessing, falls + stuck, 1, True, other)
        self.check(Guessing, falls[:1] + falls[3:] + stuck, 1, True, other)
        self.check(Guessing, falls[1:] + stuck, 1, False, other)
        self.check(Guessing, falls + stuck[1:], 1, False, other)
        self.check(Guessing, falls + stuck, 2, False, other)
        self.check(Guessing, [(0, (3,), None)] + falls + stuck, 1, False, other)
        self.check(Guessing, [(1, (0,), None)] + falls + stuck, 1, False, other)
        self.check(Guessing, [(0, (0, 1), None)] + falls + stuck, 1, False, other)

    def check(self, kind, value, girth, wanted, other=early()):
        self.assertIs(kind.are_falls(late(), other, value, girth=girth), wanted, told(value))

    def test_girth_0_and_beyond_the_states_of_the_other(self):
        for kind in KINDS.values():
            self.assertIs(kind.are_falls(late(), early(), [], girth=0), True)
            self.assertIs(kind.are_falls(value=(), other=early(), one=late(), girth=0), True)
            self.assertIs(kind.are_falls(late(), early(), [], girth=1), False)
            self.assertIs(kind.are_falls(late(), early(), [(0, (0,), (0, "flip", "ok", 1))], girth=0), False)
            self.assertIs(kind.are_falls(late(), early(), [(0, (), None)], girth=0), False)
            self.assertIs(kind.are_falls(late(), early(), None, girth=0), False)
            falls = kind.falls(late(), headed(), girth=3)
            for girth in (3, 4, 1000, 10 ** 30 - 1):
                self.assertIs(kind.are_falls(late(), headed(), falls, girth=girth), True)
            self.assertIs(kind.are_falls(late(), headed(), falls, girth=2), False)

    def test_wrong_girths(self):
        for kind in KINDS.values():
            for value in wrong_numbers(0, MOST_DIGITS + 1)[:-4] + [-1, "0", [0], (1,)]:
                self.refuse(InvalidNumber, [value], kind.are_falls, late(), early(), [], girth=value)
            self.refuse(InvalidNumber, [-1], kind.are_falls, late(), ring(6), None, girth=-1)

    def test_values_of_many_kinds(self):
        flip = (0, "flip", "ok", 1)
        falls = [(1, (1,), (1, "look", "tail", 2)), (1, (2,), (1, "look", "head", 2)), (0, (0,), flip)]
        wrong = [
            (0, (0,)), (0, (0,), flip, 0), [0, (0,), flip], (0, [0], flip), (0, 0, flip), (0, (), flip),
            (0, (4,), flip), (0, (-1,), flip), (False, (0,), flip), (0, (False,), flip),
            (0, (3,), (False, "flip", "ok", 1)), (0, (3,), (0, "flip", "ok", True)), (3, (0,), flip), (-1, (0,), flip), (0, (1, 0), flip), (0, (0, 0), flip),
            (0, (3,), list(flip)), (0, (3,), flip[1:3]), (0, (3,), (0, "flip", "ok", 2)),
            (0, (3,), (1, "look", "head", 2)),
            (0, (3,), EqualToAll()), (EqualToAll(), (3,), flip), (0, EqualToAll(), flip), (0, (EqualToAll(),), flip),
            (0, (3,), 0), (0, (0, 3), flip),
        ]
        self.check(Remembering, falls + [(0, (3,), flip)], 1, True)
        for value in wrong + unlike_values():
            self.check(Remembering, value, 1, False)
            self.check(Guessing, value, 1, False)
            for place in range(4):
                self.check(Remembering, falls[:place] + [value] + falls[place:], 1, False)
        for value in (iter(falls), {fall: 1 for fall in falls}, set(falls), [falls]):
            self.check(Remembering, value, 1, False)

    def test_states_of_the_one_that_are_not_reachable(self):
        one = Box(3, [0], [(0, "go", "ok", 0), (1, "go", "ok", 0), (1, "go", "no", 2)])
        other = Box(1, [0], [])
        fall = (0, (0,), (0, "go", "ok", 0))
        for kind in KINDS.values():
            self.assertIs(kind.are_falls(one, other, [fall], girth=1), True)
            self.assertIs(kind.are_falls(one, other, [fall, (1, (0,), (1, "go", "no", 2))], girth=1), False)
            self.assertIs(kind.are_falls(one, other, [fall, (2, (0,), (1, "go", "no", 2))], girth=1), False)
            self.assertIs(kind.are_falls(one, other, [(0, (0,), (1, "go", "ok", 0))], girth=1), False)
            self.assertIs(kind.falls(one, other, girth=1) is None, False)


class TestNothingChanges(unittest.TestCase):
    def test_the_boxes_and_the_falls_stay(self):
        one, other = late(), early()
        before = parts(one), parts(other)
        falls = Remembering.falls(one, other, girth=1)
        kept = list(falls)
        for kind in KINDS.values():
            for deed in (kind.built, kind.thin):
                self.assertEqual(deed(one, other), deed(one, other))
            kind.least_girth(one, other)
            kind.are_falls(one, other, falls, girth=1)
            kind.greatest(one, other, girth=3)
        self.assertEqual((parts(one), parts(other), falls), (*before, kept))


class TestFacts(unittest.TestCase):
    """Against a plain reckoning over many pairs of small boxes."""

    def test_built_and_thin_fans(self):
        # A state and a set are met by a row that is shorter than all tuples of a state and a set are many.
        counts = [0, 0]
        for one, other in plain.some_pairs(120, 61, 2, 6, plain.SIGNS[:2]):
            stands = plain.first_missing(one, other, 8) is None
            self.assertIs(stands_for(one, other), stands)
            counts[stands] += 1
            for word, kind in KINDS.items():
                if stands:
                    built = plain_fans.built(word, one, other, 5)
                    self.assertEqual(kind.built(one, other).sets(), built)
                    self.assertEqual(kind.thin(one, other).sets(), plain_fans.thin(built))
                    self.assertTrue(plain_fans.is_fan(word, one, other, built))
                    self.assertTrue(plain_fans.is_fan(word, one, other, plain_fans.thin(built)))
                else:
                    sets = plain_fans.all_sets(other.states, other.states)
                    self.assertEqual(plain_fans.greatest(word, one, other, sets), None)
                    with self.assertRaises(NotStanding) as caught:
                        kind.built(one, other)
                    self.assertEqual(caught.exception.value, plain.first_missing(one, other, 8))
        self.assertTrue(min(counts) > 20, counts)

    def test_built_fans_of_three_states(self):
        for one, other in plain.some_pairs(30, 67, 3, 6, plain.SIGNS[:1]):
            if stands_for(one, other):
                for word, kind in KINDS.items():
                    built = plain_fans.built(word, one, other, 21)
                    self.assertEqual(kind.built(one, other).sets(), built)
                    self.assertEqual(kind.thin(one, other).sets(), plain_fans.thin(built))

    def test_no_fan_at_all_where_it_does_not_stand_for_it(self):
        for one, other in plain.some_pairs(40, 71, 2, 4, plain.SIGNS[:2]):
            fans = plain_fans.all_fans(one, plain_fans.all_sets(other.states, 2))
            for word in KINDS:
                found = any(plain_fans.is_fan(word, one, other, sets) for sets in fans)
                self.assertIs(found, stands_for(one, other))

    def test_fans_of_single_sets_and_with_one_set_are_matchings(self):
        for one, other in plain.some_pairs(40, 73, 2, 5, plain.SIGNS[:2]):
            for pairs in plain.parts_of(plain.all_pairs(one, other)):
                single = plain_fans.dict_of(one, [(state, (far,)) for state, far in pairs])
                partners = {state: tuple(far for near, far in pairs if near == state) for state in plain.reached(one)}
                grouped = {state: [partners[state]] for state in partners}
                for kind, first, second in ((Forward, Remembering, Guessing), (Backward, Guessing, Remembering)):
                    matched = plain.is_forward if kind is Forward else plain.is_backward
                    self.assertIs(matched(one, other, pairs), plain_fans.is_fan(first.KIND, one, other, single))
                    if matched(one, other, pairs):
                        self.assertEqual(first.of_singles(kind(one, other, pairs)).sets(), single)
                    if all(partners.values()):
                        fits = plain_fans.is_fan(second.KIND, one, other, grouped)
                        self.assertIs(matched(one, other, pairs), fits)
                        if fits:
                            self.assertEqual(second.of_partners(kind(one, other, pairs)).sets(), grouped)

    def test_the_greatest_is_the_union_of_all(self):
        for one, other in plain.some_pairs(40, 79, 2, 5, plain.SIGNS[:2]):
            for girth in range(1, other.states + 1):
                fans = plain_fans.all_fans(one, plain_fans.all_sets(other.states, girth))
                for word, kind in KINDS.items():
                    found = [sets for sets in fans if plain_fans.is_fan(word, one, other, sets)]
                    if found:
                        union = {member for sets in found for member in plain_fans.members(sets)}
                        wanted = plain_fans.dict_of(one, union)
                        self.assertEqual(kind.greatest(one, other, girth=girth).sets(), wanted)
                        self.assertEqual(kind.falls(one, other, girth=girth), None)
                    else:
                        with self.assertRaises(NoFan):
                            kind.greatest(one, other, girth=girth)

    def test_girths_and_falls(self):
        counts = {True: 0, False: 0}
        for one, other in plain.some_pairs(60, 83, 3, 7, plain.SIGNS[:2]):
            for word, kind in KINDS.items():
                least = None
                for girth in range(1, other.states + 1):
                    wanted = plain_fans.greatest(word, one, other, plain_fans.all_sets(other.states, girth))
                    falls = kind.falls(one, other, girth=girth)
                    self.assertIs(falls is None, wanted is not None)
                    if wanted is None:
                        self.assertTrue(plain_fans.are_falls(word, one, other, falls, girth))
                        self.assertIs(kind.are_falls(one, other, falls, girth=girth), True)
                    else:
                        self.assertEqual(kind.greatest(one, other, girth=girth), kind(one, other, wanted))
                        least = least or girth
                    counts[wanted is None] += 1
                if least:
                    self.assertEqual(kind.least_girth(one, other), least)
                else:
                    with self.assertRaises(NotStanding):
                        kind.least_girth(one, other)
        self.assertTrue(min(counts.values()) > 50, counts)

    def test_changed_falls_are_read_by_the_words(self):
        counts = {True: 0, False: 0}
        for one, other in plain.some_pairs(60, 89, 2, 4, plain.SIGNS[:2]):
            for word, kind in KINDS.items():
                for girth in (1, 2):
                    falls = kind.falls(one, other, girth=girth) if girth <= other.states else None
                    for value in self.changed(one, other, falls or []):
                        wanted = plain_fans.are_falls(word, one, other, value, girth)
                        self.assertIs(kind.are_falls(one, other, value, girth=girth), wanted, (one, other, value))
                        counts[wanted] += 1
        self.assertTrue(min(counts.values()) > 100, counts)

    def changed(self, one, other, falls):
        """The falls without one of them, with one of them moved, and with all that might fall behind or ahead."""
        for place in range(len(falls)):
            rest = falls[:place] + falls[place + 1:]
            yield rest
            yield [falls[place]] + rest
            yield rest + [falls[place]]
        for state in plain.reached(one):
            for chosen_set in plain_fans.all_sets(other.states, 2):
                for why in [None] + one.steps():
                    yield falls + [(state, chosen_set, why)]
                    yield [(state, chosen_set, why)] + falls


if __name__ == "__main__":
    unittest.main()
