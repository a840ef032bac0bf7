"""Points [2], [51] to [53]: fans, and what is told of them."""

import unittest

from aheadbehind.basics import is_integer
from aheadbehind.boxes import Box
from aheadbehind.errors import BrokenFan, InvalidFan, InvalidState
from aheadbehind.fans import Fan, Guessing, Remembering
from tests import plain, plain_fans
from tests.refusals import Refusals
from tests.values import EqualToAll, early, late, parts, ring, told, unlike_values, wrong_lists

CLASSES = (Fan, Remembering, Guessing)
KINDS = {"remembering": Remembering, "guessing": Guessing}
THIN = {0: [(0,)], 1: [(1, 2)], 2: [(3,)]}
GUESS = {0: [(0,)], 1: [(1,), (2,)], 2: [(0, 1, 2, 3)]}


def spin(states):
    """A box that goes with one sign from each state to each state, and starts in all."""
    return Box(states, list(range(states)), [(a, "go", "ok", b) for a in range(states) for b in range(states)])


def lonely():
    """A box of which the states 1 and 3 alone are reachable."""
    return Box(4, [3], [(3, "go", "ok", 1), (0, "go", "ok", 2)])


class TestFan(unittest.TestCase):
    def setUp(self):
        self.sets = {1: [(2, 3), (0,)], 0: [], 2: [(1, 2, 3), (1,), (1, 2)]}
        self.fan = Fan(late(), early(), self.sets)

    def test_what_it_tells(self):
        self.assertEqual((self.fan.one, self.fan.other, self.fan.girth), (late(), early(), 3))
        self.assertEqual(self.fan.sets(), {0: [], 1: [(0,), (2, 3)], 2: [(1,), (1, 2), (1, 2, 3)]})
        self.assertEqual(list(self.fan.sets()), [0, 1, 2])
        self.assertEqual([self.fan[state] for state in range(3)], list(self.fan.sets().values()))
        self.assertEqual(len(self.fan), 5)
        self.assertEqual(self.fan.unlike(), [(0,), (1,), (1, 2), (1, 2, 3), (2, 3)])

    def test_equal_sets_of_two_states(self):
        fan = Fan(late(), early(), {0: [(1, 2)], 1: [(1, 2)], 2: [(3,), (1, 2)]})
        self.assertEqual((fan.unlike(), len(fan), fan.girth), ([(1, 2), (3,)], 4, 2))

    def test_an_empty_fan(self):
        fan = Fan(late(), early(), {0: [], 1: [], 2: ()})
        self.assertEqual((fan.girth, len(fan), fan.unlike(), fan.sets()), (0, 0, [], {0: [], 1: [], 2: []}))
        self.assertEqual(repr(fan), "Fan({0: [], 1: [], 2: []})")
        self.assertEqual(fan[1], [])

    def test_the_reachable_states_alone(self):
        fan = Fan(lonely(), early(), {3: [(0, 3)], 1: ((1,),)})
        self.assertEqual((fan.sets(), fan[1], fan[3]), ({1: [(1,)], 3: [(0, 3)]}, [(1,)], [(0, 3)]))
        self.assertEqual(Fan(Box(1, [0]), lonely(), {0: [(0, 2)]})[0], [(0, 2)])

    def test_by_name(self):
        for kind, sets in ((Fan, THIN), (Remembering, THIN), (Guessing, GUESS)):
            self.assertEqual(kind(sets=sets, other=early(), one=late()), kind(late(), early(), sets))

    def test_in(self):
        for member in ((1, (0,)), (1, (2, 3)), (2, (1, 2, 3))):
            self.assertIs(member in self.fan, True)
        wrong = [
            (0, (0,)), (2, (0,)), (1, (3, 2)), (1, [0]), [1, (0,)], (1, (False,)), (True, (0,)), (1,), (1, (0,), 0),
            (9, (0,)), (-1, (0,)), (1, 0), (1, ()), ("1", (0,)), (None, None), ((1,), (0,)), (1, EqualToAll()),
            (EqualToAll(), (0,)), (1, (EqualToAll(),)), ([], (0,)), (1, ((0,),)),
        ]
        for value in wrong + unlike_values():
            self.assertIs(value in self.fan, False, told(value))

    def test_it_is_not_iterated_over(self):
        for fan in (self.fan, Remembering(late(), early(), THIN)):
            with self.assertRaises(TypeError):
                list(fan)

    def test_equal(self):
        self.assertTrue(self.fan == Fan(late(), early(), {0: (), 1: ((0,), (2, 3)), 2: [(1,), (1, 2), (1, 2, 3)]}))
        self.assertFalse(self.fan != Fan(late(), early(), self.sets))
        self.assertFalse(self.fan == Fan(late(), early(), {**self.sets, 0: [(0,)]}))
        self.assertFalse(self.fan == Fan(late() + (2, "go", "ok", 2), early(), self.sets))
        self.assertFalse(self.fan == Fan(late(), early() + (2, "go", "ok", 2), self.sets))
        for value in unlike_values() + [self.sets, self.fan.sets()]:
            if not isinstance(value, EqualToAll):
                self.assertIs(self.fan == value, False, told(value))

    def test_classes_are_not_equal(self):
        fans = [kind(ring(1), ring(1), {0: [(0,)]}) for kind in CLASSES]
        for first, one in enumerate(fans):
            for second, two in enumerate(fans):
                self.assertIs(one == two, first == second)

    def test_repr(self):
        for kind in CLASSES:
            self.assertEqual(repr(kind(ring(1), ring(1), {0: [(0,)]})), kind.__name__ + "({0: [(0,)]})")
        self.assertEqual(repr(self.fan), "Fan({0: [], 1: [(0,), (2, 3)], 2: [(1,), (1, 2), (1, 2, 3)]})")
        self.assertEqual(str(Guessing(late(), early(), GUESS)), "Guessing(" + repr(GUESS) + ")")

    def test_what_is_passed_and_told_stays(self):
        one, other = late(), early()
        before = parts(one), parts(other)
        wanted = self.fan.sets()
        self.assertEqual(self.sets, {1: [(2, 3), (0,)], 0: [], 2: [(1, 2, 3), (1,), (1, 2)]})
        self.sets[1].clear()
        self.sets[5] = 7
        self.fan.sets()[1].clear()
        self.fan.sets().clear()
        self.fan[1].clear()
        self.fan.unlike().clear()
        self.assertEqual((self.fan.sets(), self.fan[1], len(self.fan.unlike())), (wanted, [(0,), (2, 3)], 5))
        self.assertEqual((parts(one), parts(other)), before)

    def test_class_values(self):
        self.assertEqual((Remembering.KIND, Guessing.KIND), ("remembering", "guessing"))
        self.assertEqual(Remembering(late(), early(), THIN).KIND, "remembering")
        self.assertEqual(Guessing(late(), early(), GUESS).KIND, "guessing")


class TestInvalidFan(Refusals):
    def test_values_of_many_kinds(self):
        for kind in CLASSES:
            for value in unlike_values() + [THIN[0], [THIN], list(THIN.items()), set(THIN)]:
                if value != {0: 0}:
                    self.refuse(InvalidFan, [value], kind, late(), early(), value)

    def test_keys(self):
        for kind in CLASSES:
            for keys in ([0, 1], [0, 1, 2, 3], [False, 1, 2], [0, True, 2], [0, 1, "2"], [0, 1, None], [], [0, 1, (2,)],
                         [0, 1, -1], [1, 2, 3], [0, 1, 2, "a"], [0, 1, 2, None], [0, 1, 2, ()]):
                sets = {key: [(0,)] for key in keys}
                self.refuse(InvalidFan, [sets], kind, late(), early(), sets)
            for keys in ([1], [3], [0, 1, 2, 3], [1, 3, 0], [True, 3]):
                sets = {key: [(0,)] for key in keys}
                self.refuse(InvalidFan, [sets], kind, lonely(), early(), sets)

    def is_set(self, value):
        """Whether a value is a set of early."""
        return (type(value) is tuple and len(value) > 0 and all(is_integer(state) and 0 <= state < 4 for state in value)
                and list(value) == sorted(set(value)))

    def test_lists_of_sets(self):
        for kind in CLASSES:
            for values, _ in wrong_lists([(1,), (1, 2)], self.is_set):
                sets = {**THIN, 1: values}
                self.refuse(InvalidFan, [sets], kind, late(), early(), sets)

    def test_sets_that_are_none(self):
        wrong = [
            (), [1], (2, 1), (1, 1), (4,), (-1,), (1, 4), (True,), (0, True), (False, 1), ("1",), ((1,),), (None,), 1,
            "1", (1, EqualToAll()), (EqualToAll(),), {1}, frozenset([1]), {1: 1}, range(1, 2), b"\x01",
        ]
        for kind in CLASSES:
            for value in wrong:
                for values in ([value], ([(1, 2), value]), (value, (1, 2)), [(1,), value, value]):
                    sets = {**THIN, 1: values}
                    self.refuse(InvalidFan, [sets], kind, late(), early(), sets)

    def test_sets_of_one_state_are_unlike(self):
        for kind in CLASSES:
            for values in ([(1,), (1,)], [(1, 2), (0,), (1, 2)], ((1,), (1,))):
                sets = {**THIN, 1: values}
                self.refuse(InvalidFan, [sets], kind, late(), early(), sets)

    def test_states(self):
        for fan in (Fan(lonely(), early(), {1: [], 3: [(0,)]}), Remembering(ring(2), ring(1), {0: [(0,)], 1: [(0,)]})):
            reachable = fan.one.reachable()
            for value in unlike_values() + [-1, 2, 4, "1", (1,)]:
                if not is_integer(value) or value not in reachable:
                    self.refuse(InvalidState, [value], lambda value: fan[value], value)


class TestBrokenFan(Refusals):
    def test_fans_of_both_kinds(self):
        self.assertEqual(Remembering(late(), early(), THIN).sets(), THIN)
        self.assertEqual(Guessing(late(), early(), GUESS).sets(), GUESS)
        self.assertEqual(len(Remembering(late(), early(), {**THIN, 2: [(0, 3), (3,)]})), 4)
        sets = {0: [(0,)], 1: [(1,)], 2: [(0, 1), (1,)], 3: [(2,), (1, 2)]}
        self.assertEqual(Guessing(early(), late(), sets).girth, 2)

    def test_the_first_that_breaks_r2(self):
        self.refuse(BrokenFan, [(1, (1,))], Remembering, late(), early(), {**THIN, 1: [(1, 2), (1,)]})
        self.refuse(BrokenFan, [(0, (0,))], Remembering, late(), early(), {**THIN, 1: [(1, 2, 3)]})
        self.refuse(BrokenFan, [(1, (1, 2))], Remembering, late(), early(), {**THIN, 2: [(0, 3)]})
        self.refuse(BrokenFan, [(0, (1, 2))], Remembering, late(), early(), {**THIN, 0: [(0,), (1, 2)]})
        self.refuse(BrokenFan, [(0, (1,))], Remembering, late(), early(), {**THIN, 0: [(3,), (2,), (1,), (0,)]})

    def test_r1(self):
        self.refuse(BrokenFan, [None], Remembering, late(), early(), {**THIN, 0: []})
        self.refuse(BrokenFan, [None], Remembering, late(), early(), {0: [], 1: [], 2: []})
        self.refuse(BrokenFan, [None], Remembering, Box(1, [0]), early(), {0: [(1,), (0, 1), (2, 3)]})
        self.refuse(BrokenFan, [None], Remembering, Box(2, [0, 1]), early(), {0: [(0,)], 1: []})
        self.assertEqual(len(Remembering(Box(2, [0, 1]), Box(3, [0, 2]), {0: [(0, 2)], 1: [(0, 1), (2,)]})), 3)

    def test_the_first_that_breaks_g1_or_g3(self):
        self.refuse(BrokenFan, [(0, (1,))], Guessing, late(), early(), {**GUESS, 0: [(0,), (1,)]})
        self.refuse(BrokenFan, [(0, (1, 2))], Guessing, late(), early(), {**GUESS, 0: [(1, 2), (0,)]})
        self.refuse(BrokenFan, [(1, (0,))], Guessing, late(), early(), {**GUESS, 1: [(0,), (1,), (2,)]})
        self.refuse(BrokenFan, [(2, (0, 1, 2))], Guessing, late(), early(), {**GUESS, 2: [(3,), (0, 1, 2)]})
        self.refuse(BrokenFan, [(2, (0, 1, 2, 3))], Guessing, late(), early(), {**GUESS, 1: [(1,)]})
        self.refuse(BrokenFan, [(1, (1,))], Guessing, late(), early(), {**GUESS, 0: []})
        self.assertEqual(Guessing(late(), early(), {**GUESS, 0: [(0,), (0, 3)]})[0], [(0,), (0, 3)])

    def test_g2(self):
        self.refuse(BrokenFan, [None], Guessing, late(), early(), {**GUESS, 2: []})
        self.refuse(BrokenFan, [None], Guessing, late(), early(), {0: [], 1: [], 2: []})
        self.refuse(BrokenFan, [None], Guessing, Box(2, [0, 1]), Box(1, [0]), {0: [], 1: [(0,)]})

    def test_steps_from_states_that_are_not_reachable_ask_for_nothing(self):
        one = Box(3, [0], [(0, "go", "ok", 1), (2, "no", "no", 1)])
        other = Box(2, [0], [(0, "go", "ok", 1)])
        self.assertEqual(len(Guessing(one, other, {0: [(0,)], 1: [(1,)]})), 2)
        self.assertEqual(len(Remembering(one, other, {0: [(0,)], 1: [(1,)]})), 2)

    def test_it_stands_behind_the_other_errors(self):
        for kind in (Remembering, Guessing):
            for sets in ({0: [(9,)], 1: [], 2: []}, {0: [], 1: []}, None):
                self.refuse(InvalidFan, [sets], kind, late(), early(), sets)


class TestPartOf(Refusals):
    def pairs_of_fans(self):
        box = spin(2)
        for kind in CLASSES:
            second = kind(box, box, {0: [(0,)], 1: [(0,), (0, 1), (1,)]})
            yield kind, kind(box, box, {0: [(0,), (1,)], 1: [(0, 1)]}), second

    def test_by_the_tuples_of_a_state_and_a_set(self):
        for kind, first, second in self.pairs_of_fans():
            both = kind(first.one, first.other, {0: [(0,), (1,)], 1: [(0,), (0, 1), (1,)]})
            self.assertIs(first.is_part_of(both), True)
            self.assertIs(second.is_part_of(further=both), True)
            self.assertIs(first.is_part_of(first), True)
            self.assertIs(both.is_part_of(first), False)
            self.assertIs(first.is_part_of(second), False)
            self.assertIs(second.is_part_of(first), False)

    def test_or(self):
        for kind, first, second in self.pairs_of_fans():
            found = first | second
            self.assertIs(type(found), kind)
            self.assertEqual(found.sets(), {0: [(0,), (1,)], 1: [(0,), (0, 1), (1,)]})
            self.assertEqual((found.one, found.other), (first.one, first.other))
            self.assertEqual((second | first, first | first), (found, first))
            self.assertEqual((len(first), len(second)), (3, 4))
        empty = Fan(late(), early(), {0: [], 1: [], 2: []})
        self.assertEqual(empty | Fan(late(), early(), THIN), Fan(late(), early(), THIN))

    def test_values_of_many_kinds(self):
        sets = {0: [(0,)]}
        for kind in CLASSES:
            fan = kind(ring(1), ring(1), sets)
            wrong = unlike_values() + [sets, kind(Box(1, [0]), ring(1), sets)]
            wrong += [kind(ring(1), spin(2), {0: [(0,), (1,)]})]
            wrong += [other(ring(1), ring(1), sets) for other in CLASSES if other is not kind]
            for value in wrong:
                self.refuse(InvalidFan, [value], fan.is_part_of, value)
                self.refuse(InvalidFan, [value], lambda value: fan | value, value)


class TestFacts(unittest.TestCase):
    """Against a plain reckoning of the rules over all fans of small boxes."""

    def test_fans_and_what_they_break(self):
        counts = {"remembering": [0, 0, 0], "guessing": [0, 0, 0]}
        for one, other in plain.some_pairs(60, 53, 2, 5, plain.SIGNS[:2]):
            for sets in plain_fans.all_fans(one, plain_fans.all_sets(other.states, 2)):
                for word, kind in KINDS.items():
                    broken = plain_fans.breaks(word, one, other, sets)
                    lacking = plain_fans.lacks(word, one, other, sets)
                    try:
                        self.assertEqual(kind(one, other, sets).sets(), sets)
                        self.assertEqual((broken, lacking), ([], False))
                        counts[word][0] += 1
                    except BrokenFan as error:
                        self.assertEqual(error.value, broken[0] if broken else None)
                        self.assertTrue(broken or lacking)
                        counts[word][1 if broken else 2] += 1
        self.assertTrue(min(min(row) for row in counts.values()) > 50, counts)

    def test_fans_join(self):
        for one, other in plain.some_pairs(30, 59, 2, 4, plain.SIGNS[:1]):
            for word, kind in KINDS.items():
                every = plain_fans.all_fans(one, plain_fans.all_sets(other.states, 2))
                fans = [kind(one, other, sets) for sets in every if plain_fans.is_fan(word, one, other, sets)]
                for first, second in zip(fans, fans[1:] + fans[:1]):
                    joined = first | second
                    less, more = (set(plain_fans.members(fan.sets())) for fan in (first, second))
                    self.assertEqual(plain_fans.members(joined.sets()), sorted(less | more))
                    self.assertTrue(first.is_part_of(joined) and second.is_part_of(joined))
                    self.assertIs(first.is_part_of(second), less <= more)


if __name__ == "__main__":
    unittest.main()
