"""Points [2], [11], [13], [14]: boxes that are made of a box."""

import unittest

from aheadbehind.basics import is_integer
from aheadbehind.boxes import Box, made_box
from aheadbehind.errors import InvalidOrder, InvalidStarts, InvalidState, InvalidStep, InvalidSteps, TooMany
from tests.values import early, late, many_steps, parts, told, unlike_values

GO = (0, "go", "ok", 1)
LOOK = (1, "look", "head", 0)
HEAD = (1, "look", "head", 2)
TAIL = (1, "look", "tail", 2)


class Deeds(unittest.TestCase):
    def refuse(self, error, values, box, deed):
        """The deed is refused with this error, and the box tells behind it what it told ahead of it."""
        before = parts(box)
        with self.assertRaises(error) as caught:
            deed(box)
        self.assertIs(type(caught.exception), error)
        for told_value, value in zip(vars(caught.exception).values(), values):
            self.assertTrue(told_value is value or told_value == value)
        self.assertEqual(len(vars(caught.exception)), len(values))
        self.assertEqual(parts(box), before)

    def gives(self, box, deed, wanted):
        """The deed gives the wanted box, and leaves its own box as it was."""
        before = parts(box)
        found = deed(box)
        self.assertIs(type(found), Box)
        self.assertEqual(parts(found), parts(wanted))
        self.assertEqual(found, wanted)
        self.assertEqual(parts(box), before)


class TestPlus(Deeds):
    def test_a_step_more_on_both_sides(self):
        box = Box(2, [0], [LOOK])
        self.gives(box, lambda box: box + GO, Box(2, [0], [GO, LOOK]))
        self.gives(box, lambda box: GO + box, Box(2, [0], [GO, LOOK]))
        self.gives(box, lambda box: GO + box + (1, "a", "a", 1), Box(2, [0], [GO, LOOK, (1, "a", "a", 1)]))

    def test_in_place_the_first_box_stays(self):
        box = first = Box(2, [0], [LOOK])
        box += GO
        self.assertEqual((first, box), (Box(2, [0], [LOOK]), Box(2, [0], [GO, LOOK])))

    def test_values_of_many_kinds_are_refused(self):
        box = Box(2, [0], [GO])
        for value in unlike_values():
            if value == GO or not Box.is_step(2, value):
                with self.subTest(value=told(value)):
                    self.refuse(InvalidStep, [value], box, lambda box: box + value)
                    # A box on the left side adds what stands on the right one.
                    wrong = box if isinstance(value, Box) else value
                    self.refuse(InvalidStep, [wrong], box, lambda box: value + box)

    def test_a_step_that_the_box_has_or_of_other_states(self):
        box = Box(2, [0], [GO])
        wrong = [GO, (0, "go", "ok", 2), (2, "go", "ok", 0), (False, "go", "ok", 0), (0, "go", "ok", True), list(LOOK)]
        for value in wrong + [[LOOK], (LOOK,), (1, "", "head", 0), (1, "look", "Head", 0), LOOK[:3], Box(1, [0]), box]:
            self.refuse(InvalidStep, [value], box, lambda box: box + value)
            if not isinstance(value, Box):
                self.refuse(InvalidStep, [value], box, lambda box: value + box)

    def test_a_25th_step(self):
        steps = many_steps(25)
        box = Box(6, [0], steps[1:])
        self.refuse(TooMany, ["steps", 24], box, lambda box: box + steps[0])
        self.refuse(TooMany, ["steps", 24], box, lambda box: steps[0] + box)
        self.gives(box - steps[1], lambda box: box + steps[0], Box(6, [0], [steps[0]] + steps[2:]))

    def test_invalid_step_ahead_of_too_many(self):
        box = Box(6, [0], many_steps(24))
        for value in (many_steps(24)[3], (6, "go", "ok", 0), None, (True, "no", "no", 0)):
            self.refuse(InvalidStep, [value], box, lambda box: box + value)
            self.refuse(InvalidStep, [value], box, lambda box: value + box)


class TestMinus(Deeds):
    def test_a_step_less(self):
        self.gives(late(), lambda box: box - TAIL, Box(3, [0], [(0, "flip", "ok", 1), HEAD]))
        self.gives(Box(2, [0], [GO]), lambda box: box - GO, Box(2, [0]))
        self.gives(Box(2, [0], [GO, LOOK]), lambda box: box - GO - LOOK + GO, Box(2, [0], [GO]))

    def test_what_the_box_does_not_have_is_refused(self):
        box = Box(2, [0], [GO])
        wrong = [LOOK, (0, "go", "ok", True), (False, "go", "ok", 1), list(GO), [GO], (GO,), GO[:3], GO + (0,), box]
        for value in wrong + unlike_values():
            if value != GO or not Box.is_step(2, value):
                with self.subTest(value=told(value)):
                    self.refuse(InvalidStep, [value], box, lambda box: box - value)

    def test_twice_is_refused(self):
        self.refuse(InvalidStep, [GO], Box(2, [0], [GO, LOOK]) - GO, lambda box: box - GO)


class TestWithout(Deeds):
    def test_some_steps_less(self):
        box = late()
        self.gives(box, lambda box: box.without([]), late())
        self.gives(box, lambda box: box.without(()), late())
        self.gives(box, lambda box: box.without([TAIL, (0, "flip", "ok", 1)]), Box(3, [0], [HEAD]))
        self.gives(box, lambda box: box.without((TAIL, HEAD)), Box(3, [0], [(0, "flip", "ok", 1)]))
        self.gives(box, lambda box: box.without(steps=box.steps()), Box(3, [0]))

    def test_the_list_is_not_changed(self):
        steps = [TAIL, HEAD]
        late().without(steps)
        self.assertEqual(steps, [TAIL, HEAD])

    def test_no_list(self):
        for value in (None, 0, True, "", b"", {}, set(), {TAIL}, {TAIL: 1}, range(0), iter([TAIL]), Box(1, [0])):
            self.refuse(InvalidSteps, [None], late(), lambda box: box.without(value))

    def test_a_step_in_the_place_of_the_list(self):
        self.refuse(InvalidSteps, [0], late(), lambda box: box.without(TAIL))

    def test_one_wrong_element_at_each_place(self):
        wrong = [(0, "flip", "ok", 2), list(TAIL), (True, "look", "tail", 2), TAIL[:3], (3, "look", "tail", 2)]
        for value in wrong + unlike_values():
            for place in range(4):
                steps = late().steps()
                steps.insert(place, value)
                with self.subTest(value=told(value), place=place):
                    self.refuse(InvalidSteps, [place], late(), lambda box: box.without(steps))
                    self.refuse(InvalidSteps, [place], late(), lambda box: box.without(tuple(steps)))

    def test_an_element_twice(self):
        self.refuse(InvalidSteps, [1], late(), lambda box: box.without([TAIL, TAIL]))
        self.refuse(InvalidSteps, [2], late(), lambda box: box.without([TAIL, HEAD, TAIL, None]))


class TestWithStarts(Deeds):
    def test_other_starts(self):
        self.gives(late(), lambda box: box.with_starts([2, 1]), Box(3, [1, 2], late().steps()))
        self.gives(late(), lambda box: box.with_starts((2,)), Box(3, [2], late().steps()))
        self.gives(late(), lambda box: box.with_starts(starts=[0]), late())

    def test_the_list_is_copied_and_not_changed(self):
        starts = [2, 0]
        box = late().with_starts(starts)
        self.assertEqual(starts, [2, 0])
        starts.append(1)
        self.assertEqual(box.starts(), [0, 2])

    def test_no_list_or_no_element(self):
        for value in (None, 0, True, "", "0", b"", {}, set(), {0}, range(1), iter([0]), Box(1, [0]), [], ()):
            self.refuse(InvalidStarts, [None], late(), lambda box: box.with_starts(value))

    def test_one_wrong_element_at_each_place(self):
        for value in unlike_values():
            if not is_integer(value) or not 0 <= value < 3:
                for place in range(4):
                    starts = [2, 1, 0]
                    starts.insert(place, value)
                    self.refuse(InvalidStarts, [place], late(), lambda box: box.with_starts(starts))

    def test_an_element_twice(self):
        self.refuse(InvalidStarts, [2], late(), lambda box: box.with_starts([1, 2, 1, 9]))
        self.refuse(InvalidStarts, [1], late(), lambda box: box.with_starts([0, False]))


class TestPart(Deeds):
    def test_the_reachable_states_numbered_in_their_sequence(self):
        box = Box(6, [4, 2], [(4, "a", "a", 5), (5, "b", "b", 2), (0, "c", "c", 2), (3, "d", "d", 0), (4, "e", "e", 4)])
        wanted = Box(3, [0, 1], [(1, "a", "a", 2), (2, "b", "b", 0), (1, "e", "e", 1)])
        self.gives(box, lambda box: box.part(), wanted)
        self.gives(early().with_starts([2]), lambda box: box.part(), Box(2, [0], [(0, "look", "tail", 1)]))

    def test_all_states_are_reachable(self):
        for box in (late(), early(), Box(1, [0]), Box(6, list(range(6)), many_steps(24))):
            self.gives(box, lambda box: box.part(), box)

    def test_no_step_is_left(self):
        self.gives(Box(5, [3], [(0, "a", "a", 3), (4, "a", "a", 4)]), lambda box: box.part(), Box(1, [0]))


class TestNumbered(Deeds):
    def test_the_state_at_a_place_gets_the_number_of_the_place(self):
        wanted = Box(3, [1], [(1, "flip", "ok", 2), (2, "look", "head", 0), (2, "look", "tail", 0)])
        self.gives(late(), lambda box: box.numbered([2, 0, 1]), wanted)
        self.gives(late(), lambda box: box.numbered((2, 0, 1)), wanted)
        self.gives(late(), lambda box: box.numbered(order=[2, 0, 1]), wanted)
        self.gives(wanted, lambda box: box.numbered([1, 2, 0]), late())
        self.gives(late(), lambda box: box.numbered([0, 1, 2]), late())
        self.gives(Box(1, [0]), lambda box: box.numbered([0]), Box(1, [0]))

    def test_unreachable_states_stay(self):
        self.gives(Box(2, [1], [GO]), lambda box: box.numbered([1, 0]), Box(2, [0], [(1, "go", "ok", 0)]))

    def test_the_list_is_not_changed(self):
        order = [2, 0, 1]
        late().numbered(order)
        self.assertEqual(order, [2, 0, 1])

    def test_what_is_no_list_of_all_states_each_once(self):
        wrong = [[0, 1], [0, 1, 2, 3], [0, 1, 1], [0, 1, 3], [0, 1, -1], [1, 2, 3], [0, 0, 0], [0, True, 2], [False, 1, 2]]
        wrong += [[0, 1, "2"], [0, 1, None], [0, 1, [2]], [0, 1, (2,)], {0: 0, 1: 1, 2: 2}, {0, 1, 2}, range(3), "012"]
        wrong += [[0, 1, 2, 2], [[0, 1, 2]], ((0, 1, 2),), b"\x00\x01\x02", iter([0, 1, 2]), (0, 1), (2, 1, True)]
        for value in wrong + unlike_values():
            with self.subTest(value=told(value)):
                self.refuse(InvalidOrder, [value], late(), lambda box: box.numbered(value))

    def test_one_wrong_element_at_each_place(self):
        for place in range(3):
            for value in unlike_values():
                order = [2, 0, 1]
                if type(value) is not int or value != order[place]:
                    order[place] = value
                    self.refuse(InvalidOrder, [order], late(), lambda box: box.numbered(order))


class TestTurned(Deeds):
    def test_all_steps_the_other_way_round_and_all_states_as_starts(self):
        wanted = Box(3, [0, 1, 2], [(1, "flip", "ok", 0), (2, "look", "head", 1), (2, "look", "tail", 1)])
        self.gives(late(), lambda box: box.turned(), wanted)
        self.gives(wanted, lambda box: box.turned(), late().with_starts([0, 1, 2]))
        self.gives(Box(6, [3]), lambda box: box.turned(), Box(6, [0, 1, 2, 3, 4, 5]))
        self.gives(Box(1, [0], [(0, "a", "b", 0)]), lambda box: box.turned(), Box(1, [0], [(0, "a", "b", 0)]))

    def test_unreachable_states_and_24_steps(self):
        steps = [(to, call, answer, state) for state, call, answer, to in many_steps(24)]
        self.gives(Box(6, [5], many_steps(24)), lambda box: box.turned(), Box(6, list(range(6)), steps))


class TestNoLimits(Deeds):
    """Boxes that the package makes may have more states and steps than those that a caller makes."""

    def setUp(self):
        self.steps = [(state, "go", "ok", state + 1) for state in range(29)]
        self.box = made_box(30, [0], self.steps)

    def test_what_it_tells(self):
        self.assertEqual((self.box.states, len(self.box), list(self.box)), (30, 29, self.steps))
        self.assertEqual(self.box.reachable(), list(range(30)))
        self.assertEqual((self.box[28], self.box[29], self.box.is_sure), ({("go", "ok"): [29]}, {}, True))
        self.assertEqual(self.box.steps_to(29), [(28, "go", "ok", 29)])
        self.refuse(InvalidState, [30], self.box, lambda box: box[30])

    def test_starts_and_steps_that_stand_twice_are_one(self):
        box = made_box(2, [1, 0, 1], [LOOK, GO, LOOK])
        self.assertEqual(parts(box), parts(Box(2, [0, 1], [GO, LOOK])))

    def test_boxes_made_of_it(self):
        half = [(state, "go", "ok", state + 1) for state in range(14)]
        back = [(to, "go", "ok", state) for state, _, _, to in self.steps]
        order = list(range(30))[::-1]
        self.gives(self.box, lambda box: box.turned(), made_box(30, list(range(30)), back))
        self.gives(self.box, lambda box: box.with_starts([29]), made_box(30, [29], self.steps))
        self.gives(self.box, lambda box: box.with_starts([15]).part(), made_box(15, [0], half))
        self.gives(self.box, lambda box: box.part(), self.box)
        self.gives(self.box, lambda box: box.numbered(order).numbered(order), self.box)
        self.gives(self.box, lambda box: box.without(self.steps[1:]), made_box(30, [0], self.steps[:1]))
        self.gives(self.box, lambda box: box - self.steps[3], made_box(30, [0], self.steps[:3] + self.steps[4:]))

    def test_a_step_more_has_its_limit_all_the_same(self):
        step = (29, "go", "ok", 0)
        self.refuse(TooMany, ["steps", 24], self.box, lambda box: box + step)
        self.refuse(InvalidStep, [self.steps[0]], self.box, lambda box: box + self.steps[0])
        self.refuse(TooMany, ["steps", 24], made_box(30, [0], self.steps[:24]), lambda box: step + box)
        wanted = made_box(30, [0], self.steps[:23] + [step])
        self.gives(made_box(30, [0], self.steps[:23]), lambda box: step + box, wanted)

    def test_its_states_have_no_limit_there(self):
        self.gives(made_box(7, [6], []), lambda box: box + (6, "a", "a", 0), made_box(7, [6], [(6, "a", "a", 0)]))
