"""Points [64] and [65]: boxes that recall signs or foresee them, and the least look."""

import unittest

from aheadbehind.boxes import Box
from aheadbehind.errors import InvalidKind, InvalidNumber, TooMany
from aheadbehind.looks import foreseeing, least_look, recalling
from tests import plain, plain_fans
from tests.refusals import Refusals
from tests.values import early, late, parts, ring, wide, wrong_kinds, wrong_numbers

GO = ("go", "ok")
NO = ("go", "no")
FLIP = ("flip", "ok")
HEAD = ("look", "head")
TAIL = ("look", "tail")


def joined(size):
    """A box that answers differently at first, and then goes on alike for so many steps."""
    steps = [(0, "go", "ok", 1), (0, "go", "no", 1)]
    return Box(size + 1, [0], steps + [(state, "on", "ok", state + 1) for state in range(1, size)])


def apart(size):
    """A box alike to the joined one that keeps for all steps apart what it answered at first."""
    steps = [(0, "go", "ok", 1), (0, "go", "no", size + 1)]
    steps += [(state, "on", "ok", state + 1) for state in [*range(1, size), *range(size + 1, 2 * size)]]
    return wide(2 * size + 1, [0], steps)


def chosen(size):
    """A box that chooses, unseen, at its first step what it will answer behind so many steps."""
    steps = [(state, "on", "ok", state + 1) for state in range(size)] + [(size, "say", "yes", 0)]
    steps.append((0, "on", "ok", size + 1))
    steps += [(state, "on", "ok", state + 1) for state in range(size + 1, 2 * size)]
    return wide(2 * size + 1, [0], steps + [(2 * size, "say", "no", 0)])


def free(size):
    """A box alike to the chosen one that chooses when it answers."""
    steps = [(state, "on", "ok", state + 1) for state in range(size)]
    return Box(size + 1, [0], steps + [(size, "say", "yes", 0), (size, "say", "no", 0)])


class TestRecalling(Refusals):
    def test_no_signs(self):
        lonely = Box(3, [1], [(0, "go", "ok", 2)])
        for box in (early(), lonely, Box(1, [0])):
            self.assertEqual(recalling(box, 0), (box, [(state, ()) for state in range(box.states)]))

    def test_one_sign(self):
        found = recalling(number=1, box=joined(2))
        self.assertEqual([type(part) for part in (found, *found)], [tuple, Box, list])
        box, looks = found
        self.assertEqual(looks, [(0, ()), (1, (NO,)), (1, (GO,)), (2, (("on", "ok"),))])
        steps = [(0, "go", "no", 1), (0, "go", "ok", 2), (1, "on", "ok", 3), (2, "on", "ok", 3)]
        self.assertEqual(box, Box(4, [0], steps))

    def test_two_signs(self):
        box, looks = recalling(joined(3), 2)
        on = ("on", "ok")
        self.assertEqual(looks, [(0, ()), (1, (NO,)), (1, (GO,)), (2, (NO, on)), (2, (GO, on)), (3, (on, on))])
        steps = [(0, "go", "no", 1), (0, "go", "ok", 2), (1, "on", "ok", 3), (2, "on", "ok", 4)]
        self.assertEqual(box, Box(6, [0], steps + [(3, "on", "ok", 5), (4, "on", "ok", 5)]))
        self.assertEqual(recalling(ring(1), 2)[1], [(0, ()), (0, (GO,)), (0, (GO, GO))])
        self.assertEqual(recalling(ring(1), 2)[0], Box(3, [0], [(0, *GO, 1), (1, *GO, 2), (2, *GO, 2)]))

    def test_several_starts_and_states_that_are_not_reachable(self):
        box = Box(4, [3, 0], [(0, "go", "ok", 3), (1, "go", "no", 0), (3, "go", "no", 3)])
        found, looks = recalling(box, 1)
        self.assertEqual(looks, [(0, ()), (3, ()), (3, (NO,)), (3, (GO,))])
        steps = [(0, "go", "ok", 3), (1, "go", "no", 2), (2, "go", "no", 2), (3, "go", "no", 2)]
        self.assertEqual(found, Box(4, [0, 1], steps))

    def test_a_box_without_steps(self):
        for number in (1, 2):
            self.assertEqual(recalling(Box(3, [2, 1]), number), (Box(2, [0, 1]), [(1, ()), (2, ())]))


class TestForeseeing(Refusals):
    def test_no_signs(self):
        lonely = Box(3, [1], [(0, "go", "ok", 2)])
        for box in (late(), lonely, Box(1, [0])):
            self.assertEqual(foreseeing(box, 0), (box, [(state, ()) for state in range(box.states)]))

    def test_one_sign(self):
        found = foreseeing(number=1, box=late())
        self.assertEqual([type(part) for part in (found, *found)], [tuple, Box, list])
        box, looks = found
        self.assertEqual(looks, [(0, ()), (0, (FLIP,)), (1, ()), (1, (HEAD,)), (1, (TAIL,)), (2, ())])
        steps = [(1, *FLIP, 2), (1, *FLIP, 3), (1, *FLIP, 4), (3, *HEAD, 5), (4, *TAIL, 5)]
        self.assertEqual(box, Box(6, [0, 1], steps))

    def test_two_signs(self):
        box, looks = foreseeing(late(), 2)
        self.assertEqual(looks, [
            (0, ()), (0, (FLIP,)), (0, (FLIP, HEAD)), (0, (FLIP, TAIL)), (1, ()), (1, (HEAD,)), (1, (TAIL,)), (2, ()),
        ])
        steps = [(1, *FLIP, 4), (2, *FLIP, 5), (3, *FLIP, 6), (5, *HEAD, 7), (6, *TAIL, 7)]
        self.assertEqual(box, wide(8, [0, 1, 2, 3], steps))
        looks = [(0, ()), (0, (GO,)), (0, (GO, GO))]
        steps = [(1, *GO, 0), (2, *GO, 1), (2, *GO, 2)]
        self.assertEqual(foreseeing(ring(1), 2), (Box(3, [0, 1, 2], steps), looks))

    def test_only_what_the_next_state_gives(self):
        box = Box(3, [0], [(0, "go", "ok", 1), (0, "go", "ok", 2), (1, "a", "a", 0), (2, "b", "b", 0)])
        found, looks = foreseeing(box, 1)
        self.assertEqual(looks, [(0, ()), (0, (GO,)), (1, ()), (1, (("a", "a"),)), (2, ()), (2, (("b", "b"),))])
        self.assertEqual([step[3] for step in found.steps_from(1)], [2, 3, 4, 5])
        found, looks = foreseeing(box, 2)
        place = looks.index((0, (GO, ("a", "a"))))
        ends = [(1, (("a", "a"),)), (1, (("a", "a"), GO))]
        self.assertEqual([looks[step[3]] for step in found.steps_from(place)], ends)

    def test_several_starts_and_states_that_are_not_reachable(self):
        box = Box(4, [3, 0], [(0, "go", "ok", 3), (1, "go", "no", 0)])
        found, looks = foreseeing(box, 1)
        self.assertEqual(looks, [(0, ()), (0, (GO,)), (3, ())])
        self.assertEqual(found, Box(3, [0, 1, 2], [(1, "go", "ok", 2)]))

    def test_a_box_without_steps(self):
        for number in (1, 2):
            self.assertEqual(foreseeing(Box(3, [2, 1]), number), (Box(2, [0, 1]), [(1, ()), (2, ())]))


class TestRefusals(Refusals):
    def steps(self, count):
        return [(state, "go", "ok", to) for state in range(3) for to in range(3)][:count]

    def test_numbers(self):
        for deed in (recalling, foreseeing):
            for value in wrong_numbers(0, 2):
                self.refuse(InvalidNumber, [value], deed, late(), value)
                self.refuse(InvalidNumber, [value], deed, Box(3, [0], self.steps(9)), number=value)
            self.refuse(InvalidNumber, [3], deed, late(), 3)

    def test_eight_steps_and_nine(self):
        eight, nine = Box(3, [0], self.steps(8)), Box(3, [0], self.steps(9))
        for number in (0, 1, 2):
            for deed in (recalling, foreseeing):
                deed(eight, number)
                self.refuse(TooMany, ["steps", 8], deed, nine, number)
        for kind in plain_fans.KINDS:
            self.assertEqual(least_look(eight, eight, kind), 0)
            self.assertEqual(least_look(eight, nine, kind), 0)
            self.refuse(TooMany, ["steps", 8], least_look, nine, eight, kind)

    def test_kinds(self):
        for value in wrong_kinds():
            self.refuse(InvalidKind, [value], least_look, late(), early(), value)
            self.refuse(InvalidKind, [value], least_look, Box(3, [0], self.steps(9)), early(), kind=value)


class TestLeastLook(unittest.TestCase):
    def test_remembering(self):
        self.assertEqual(least_look(late(), early(), "remembering"), 0)
        self.assertEqual([least_look(joined(size), apart(size), "remembering") for size in (1, 2, 3)], [1, 2, None])
        self.assertEqual(least_look(kind="remembering", other=late(), one=early()), 0)

    def test_guessing(self):
        self.assertEqual(least_look(late(), early(), "guessing"), 1)
        self.assertEqual([least_look(free(size), chosen(size), "guessing") for size in (1, 2, 3)], [1, 2, None])
        self.assertEqual(least_look(early(), late(), "guessing"), 0)

    def test_it_does_not_stand_for_it(self):
        for kind in plain_fans.KINDS:
            self.assertEqual(least_look(late(), Box(6, [0]), kind), None)

    def test_any_number_of_states(self):
        one = wide(40, [0], [(0, "go", "ok", 39)])
        for kind in plain_fans.KINDS:
            self.assertEqual(least_look(one, ring(40), kind), 0)


class TestNothingChanges(unittest.TestCase):
    def test_the_box_and_what_is_told(self):
        box = late()
        before = parts(box)
        for deed in (recalling, foreseeing):
            for number in range(3):
                found, looks = deed(box, number)
                kept = parts(found), list(looks)
                looks.clear()
                found, looks = deed(box, number)
                self.assertEqual((parts(found), looks), kept)
        self.assertEqual(parts(box), before)


class TestFacts(unittest.TestCase):
    """Against a plain reckoning over many small boxes."""

    def boxes(self):
        return plain.some_boxes(80, 127, 3, 7, plain.SIGNS[:2])

    def test_boxes_as_told(self):
        for box in self.boxes():
            for number in (1, 2):
                for deed, wanted in ((recalling, plain_fans.recalling), (foreseeing, plain_fans.foreseeing)):
                    found, looks = deed(box, number)
                    parts_found = found.states, found.starts(), found.steps(), looks
                    self.assertEqual(parts_found, plain_fans.told(*wanted(box, number)))

    def test_both_give_the_rows_of_the_box(self):
        for box in self.boxes():
            rows = plain.rows_up_to(box, 4)
            for number in (0, 1, 2):
                self.assertEqual(plain.rows_up_to(recalling(box, number)[0], 4), rows)
                self.assertEqual(plain.rows_up_to(foreseeing(box, number)[0], 4), rows)

    def test_the_least_look(self):
        counts = {0: 0, 1: 0, 2: 0, None: 0}
        pairs = [(joined(size), apart(size)) for size in (1, 2, 3)] + [(free(size), chosen(size)) for size in (1, 2, 3)]
        for one, other in plain.some_pairs(150, 131, 3, 6, plain.SIGNS[:2]) + pairs:
            for kind in plain_fans.KINDS:
                wanted = None
                for number in (2, 1, 0):
                    box = one
                    if number:
                        deed = plain_fans.recalling if kind == "remembering" else plain_fans.foreseeing
                        states, starts, steps, _ = plain_fans.told(*deed(one, number))
                        box = wide(states, starts, steps)
                    matched = plain.has_backward if kind == "remembering" else plain.has_forward
                    wanted = number if matched(box, other) else wanted
                self.assertEqual(least_look(one, other, kind), wanted)
                counts[wanted] += 1
        self.assertTrue(min(counts.values()) > 1, counts)


if __name__ == "__main__":
    unittest.main()
