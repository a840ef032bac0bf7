"""Points [2], [11], [14]: how boxes are made, and what is refused then."""

import unittest

from aheadbehind.basics import is_integer, is_sign
from aheadbehind.boxes import Box
from aheadbehind.errors import InvalidRow, InvalidStarts, InvalidStates, InvalidSteps, TooMany
from tests.values import MOST_DIGITS, many_steps, nested, parts, told, unlike_values

GO = (0, "go", "ok", 1)
LOOK = (1, "look", "head", 0)


class Refusals(unittest.TestCase):
    def refuse(self, error, values, *given, **named):
        """The call of Box is refused with this error, and these values of its attributes."""
        with self.subTest(given=told(given), named=told(named)):
            with self.assertRaises(error) as caught:
                Box(*given, **named)
            self.assertIs(type(caught.exception), error)
            self.assertEqual(list(vars(caught.exception).values()), values)


class TestMade(unittest.TestCase):
    def test_by_position_and_by_name(self):
        box = Box(2, [0], [GO])
        self.assertEqual(Box(states=2, starts=[0], steps=[GO]), box)
        self.assertEqual(Box(steps=[GO], starts=[0], states=2), box)
        self.assertEqual(Box(2, [0], steps=[GO]), box)
        self.assertEqual(Box(2, starts=[0], steps=[GO]), box)

    def test_without_steps(self):
        for box in (Box(1, [0]), Box(1, [0], []), Box(1, [0], ()), Box(1, [0], steps=()), Box(starts=[0], states=1)):
            self.assertEqual((box.states, box.starts(), box.steps(), len(box)), (1, [0], [], 0))

    def test_tuples_in_the_place_of_lists(self):
        self.assertEqual(Box(2, (0, 1), (GO, LOOK)), Box(2, [0, 1], [GO, LOOK]))
        self.assertEqual(type(Box(2, (0, 1), (GO, LOOK)).starts()), list)
        self.assertEqual(type(Box(2, (0, 1), (GO, LOOK)).steps()), list)

    def test_one_state_and_six(self):
        one = Box(1, [0], [(0, "go", "ok", 0)])
        self.assertEqual((one.states, one.steps()), (1, [(0, "go", "ok", 0)]))
        six = Box(6, [5, 4, 3, 2, 1, 0], [(5, "go", "ok", 0), (0, "go", "ok", 5)])
        self.assertEqual((six.states, six.starts()), (6, [0, 1, 2, 3, 4, 5]))
        self.assertEqual(six.steps(), [(0, "go", "ok", 5), (5, "go", "ok", 0)])

    def test_24_steps(self):
        box = Box(6, [0], many_steps(24))
        self.assertEqual(len(box), 24)
        self.assertEqual(box.steps(), sorted(many_steps(24)))

    def test_what_was_passed_is_copied_and_not_changed(self):
        starts, steps = [1, 0], [LOOK, GO]
        box = Box(2, starts, steps)
        self.assertEqual((starts, steps), ([1, 0], [LOOK, GO]))
        told_first = parts(box)
        starts.append(7)
        starts[0] = 9
        steps.clear()
        self.assertEqual(parts(box), told_first)
        self.assertEqual(box, Box(2, [0, 1], [GO, LOOK]))

    def test_class_values(self):
        self.assertEqual((Box.MOST_STATES, Box.MOST_STEPS), (6, 24))
        self.assertEqual((Box(1, [0]).MOST_STATES, Box(1, [0]).MOST_STEPS), (6, 24))


class TestInvalidStates(Refusals):
    def test_values_of_many_kinds(self):
        for value in unlike_values():
            if not is_integer(value) or value < 1:
                with self.subTest(value=told(value)):
                    with self.assertRaises(InvalidStates) as caught:
                        Box(value, [0])
                    self.assertIs(caught.exception.value, value)

    def test_the_edges(self):
        for value in (0, -1, True, False, None, "1", [1], (1,), -MOST_DIGITS):
            self.refuse(InvalidStates, [value], value, [0], [])
            self.refuse(InvalidStates, [value], states=value, starts=[0])

    def test_states_are_looked_at_first(self):
        self.refuse(InvalidStates, [0], 0, None, None)
        self.refuse(InvalidStates, [True], True, [7], [7])


class TestInvalidStarts(Refusals):
    def test_no_list_or_no_element(self):
        for value in (None, 0, True, "0", "", b"\x00", {0}, {0: 0}, {}, set(), range(1), iter([0]), Box(1, [0]), [], ()):
            self.refuse(InvalidStarts, [None], 2, value, [])
            self.refuse(InvalidStarts, [None], states=2, starts=value)

    def test_one_wrong_element_at_each_place(self):
        for value in unlike_values():
            if not is_integer(value) or not 0 <= value < 4:
                for place in range(5):
                    starts = [0, 1, 2, 3]
                    starts.insert(place, value)
                    self.refuse(InvalidStarts, [place], 4, starts)
                    self.refuse(InvalidStarts, [place], 4, tuple(starts))

    def test_an_element_twice_is_wrong_at_its_second_place(self):
        for starts, place in (([0, 0], 1), ([1, 0, 1], 2), ([1, 1, 0, 0], 1), ([0, 1, 2, 2, 9], 3)):
            self.refuse(InvalidStarts, [place], 3, starts)

    def test_true_and_false_are_no_states(self):
        self.refuse(InvalidStarts, [0], 2, [True])
        self.refuse(InvalidStarts, [0], 2, [False])
        self.refuse(InvalidStarts, [1], 2, [1, True])
        self.refuse(InvalidStarts, [1], 2, [0, False])

    def test_the_edges_of_states(self):
        self.refuse(InvalidStarts, [0], 1, [1])
        self.refuse(InvalidStarts, [1], 6, [5, 6])
        self.refuse(InvalidStarts, [0], 6, [-1])
        self.refuse(InvalidStarts, [999], 1000, list(range(999)) + [1000])

    def test_starts_are_looked_at_ahead_of_steps(self):
        self.refuse(InvalidStarts, [1], 2, [0, 2], None)
        self.refuse(InvalidStarts, [None], 2, [], [None])
        self.refuse(InvalidStarts, [None], 2, [], many_steps(25))


class TestInvalidSteps(Refusals):
    def test_no_list(self):
        for value in (None, 0, True, False, "", "go", b"", {GO}, set(), {GO: 1}, {}, range(0), iter([GO]), Box(1, [0])):
            self.refuse(InvalidSteps, [None], 2, [0], value)
            self.refuse(InvalidSteps, [None], states=2, starts=[0], steps=value)

    def test_a_step_in_the_place_of_the_list(self):
        self.refuse(InvalidSteps, [0], 2, [0], GO)

    def test_one_wrong_element_at_each_place(self):
        right = [GO, LOOK, (1, "look", "tail", 0)]
        for value in unlike_values():
            if not Box.is_step(2, value):
                for place in range(4):
                    steps = right[:place] + [value] + right[place:]
                    self.refuse(InvalidSteps, [place], 2, [0], steps)
                    self.refuse(InvalidSteps, [place], 2, [0], tuple(steps))

    def test_steps_that_are_nearly_right(self):
        wrong = [
            [0, "go", "ok", 1], (0, "go", "ok"), (0, "go", "ok", 1, 1), (0, "go", 1), (), ((0, "go", "ok", 1),),
            (True, "go", "ok", 1), (0, "go", "ok", True), (False, "go", "ok", 1), (0, "go", "ok", False),
            (2, "go", "ok", 1), (0, "go", "ok", 2), (-1, "go", "ok", 1), (0, "go", "ok", -1), ("0", "go", "ok", 1),
            (0, "", "ok", 1), (0, "go", "", 1), (0, "Go", "ok", 1), (0, "go", "oK", 1), (0, "go ", "ok", 1),
            (0, "ninewords", "ok", 1), (0, "go", "ninewords", 1), (0, b"go", "ok", 1), (0, "go", ["ok"], 1),
            (0, ("go", "ok"), 1), (0, None, "ok", 1), (None, "go", "ok", 1), (0, "go", "ok", None), (0, "go", 0, 1),
            ([0], "go", "ok", 1), (0, "go", "ok", {}), "goes", b"goes", {0: 1, "go": 1, "ok": 1, 1: 1},
        ]
        for value in wrong:
            self.assertIs(Box.is_step(2, value), False, told(value))
            self.refuse(InvalidSteps, [1], 2, [0], [GO, value, None])

    def test_an_element_twice_is_wrong_at_its_second_place(self):
        self.refuse(InvalidSteps, [1], 2, [0], [GO, GO])
        self.refuse(InvalidSteps, [2], 2, [0], [GO, LOOK, GO, None])
        self.refuse(InvalidSteps, [2], 2, [0], [GO, LOOK, LOOK, GO])

    def test_true_and_false_within_a_step_that_stands_ahead(self):
        self.refuse(InvalidSteps, [1], 2, [0], [GO, (False, "go", "ok", 1)])
        self.refuse(InvalidSteps, [1], 2, [0], [GO, (0, "go", "ok", True)])


class TestTooMany(Refusals):
    def test_seven_states(self):
        for states in (7, 8, 1000, MOST_DIGITS):
            self.refuse(TooMany, ["states", 6], states, [0])
            self.refuse(TooMany, ["states", 6], states, [states - 1], [(states - 1, "go", "ok", 0)])

    def test_a_25th_step(self):
        for count in (25, 26, 36):
            self.refuse(TooMany, ["steps", 24], 6, [0], many_steps(count))
        self.refuse(TooMany, ["steps", 24], 1, [0], [(0, "go", letter, 0) for letter in "abcdefghijklmnopqrstuvwxy"])

    def test_states_ahead_of_steps(self):
        self.refuse(TooMany, ["states", 6], 7, [0], many_steps(25))

    def test_behind_all_errors_that_begin_with_invalid(self):
        self.refuse(InvalidStarts, [None], 7, [], many_steps(25))
        self.refuse(InvalidStarts, [1], 7, [6, 7], [])
        self.refuse(InvalidStarts, [7], 7, [0, 1, 2, 3, 4, 5, 6, 6])
        self.refuse(InvalidSteps, [None], 7, [0], None)
        self.refuse(InvalidSteps, [25], 6, [0], many_steps(25) + [(6, "go", "ok", 0)])
        self.refuse(InvalidSteps, [25], 6, [0], many_steps(25) + many_steps(1))
        self.refuse(InvalidSteps, [999], 1000, [0], [(0, "go", "ok", to) for to in range(999)] + [None])


class TestIsStep(unittest.TestCase):
    def test_any_value_gives_a_bool(self):
        for states in (1, 2, 6, 7, MOST_DIGITS):
            for value in unlike_values():
                with self.subTest(states=states, value=told(value)):
                    self.assertIs(type(Box.is_step(states, value)), bool)

    def test_steps(self):
        self.assertIs(Box.is_step(2, GO), True)
        self.assertIs(Box.is_step(states=2, value=GO), True)
        self.assertIs(Box(1, [0]).is_step(2, GO), True)
        self.assertIs(Box.is_step(1, (0, "a", "zzzzzzzz", 0)), True)
        self.assertIs(Box.is_step(1, GO), False)

    def test_more_states_than_a_box_of_a_caller_has(self):
        self.assertIs(Box.is_step(7, (6, "go", "ok", 6)), True)
        self.assertIs(Box.is_step(7, (7, "go", "ok", 6)), False)
        self.assertIs(Box.is_step(MOST_DIGITS, (MOST_DIGITS - 1, "go", "ok", 0)), True)
        self.assertIs(Box.is_step(MOST_DIGITS, (0, "go", "ok", MOST_DIGITS)), False)

    def test_more_steps_than_a_box_of_a_caller_has(self):
        for step in many_steps(36):
            self.assertIs(Box.is_step(6, step), True)


class TestOfRow(unittest.TestCase):
    def test_rows(self):
        row = [("flip", "ok"), ("look", "head"), ("flip", "ok")]
        steps = [(0, "flip", "ok", 1), (1, "look", "head", 2), (2, "flip", "ok", 3)]
        self.assertEqual(Box.of_row(row), Box(4, [0], steps))
        self.assertEqual(Box.of_row(tuple(row)), Box(4, [0], steps))
        self.assertEqual(Box.of_row(row=row), Box(4, [0], steps))
        self.assertEqual(Box(1, [0]).of_row(row), Box(4, [0], steps))
        self.assertEqual(Box.of_row(row[:1]), Box(2, [0], steps[:1]))

    def test_the_empty_row(self):
        self.assertEqual(Box.of_row([]), Box(1, [0]))
        self.assertEqual(Box.of_row(()), Box(1, [0]))

    def test_five_signs_and_six(self):
        self.assertEqual(Box.of_row([("go", "ok")] * 5).states, 6)
        for count in (6, 24, 25, 1000):
            with self.assertRaises(TooMany) as caught:
                Box.of_row([("go", "ok")] * count)
            self.assertEqual((caught.exception.what, caught.exception.limit), ("states", 6))

    def check(self, row, position):
        with self.subTest(row=told(row)):
            with self.assertRaises(InvalidRow) as caught:
                Box.of_row(row)
            self.assertEqual(caught.exception.position, position)

    def test_no_list(self):
        for value in (None, 0, True, "", "go", b"", {}, {("go", "ok")}, {("go", "ok"): 1}, range(0), iter([]), Box(1, [0])):
            self.check(value, None)

    def test_one_wrong_element_at_each_place(self):
        for value in unlike_values():
            if not is_sign(value):
                for place in range(4):
                    row = [("go", "ok"), ("go", "ok"), ("look", "head")]
                    row.insert(place, value)
                    self.check(row, place)
                    self.check(tuple(row), place)

    def test_the_first_wrong_element_decides(self):
        self.check([("go", "ok"), ["go", "ok"], None], 1)
        self.check([("go", "ok", "ok"), None], 0)
        self.check(("go", "ok"), 0)
        self.check([nested(8)], 0)

    def test_invalid_row_ahead_of_too_many(self):
        self.check([("go", "ok")] * 6 + [("go", True)], 6)
        self.check([("go", "ok")] * 999 + [None], 999)

    def test_the_row_is_copied_and_not_changed(self):
        row = [("flip", "ok"), ("look", "head")]
        box = Box.of_row(row)
        self.assertEqual(row, [("flip", "ok"), ("look", "head")])
        row.clear()
        self.assertEqual(box.steps(), [(0, "flip", "ok", 1), (1, "look", "head", 2)])
