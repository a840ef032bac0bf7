"""Points [2], [11], [12]: what a box tells of itself."""

import unittest

from aheadbehind.boxes import Box
from aheadbehind.errors import InvalidState
from tests.values import EqualToAll, early, late, many_steps, parts, told, unlike_values

GO = (0, "go", "ok", 1)
LOOK = (1, "look", "head", 0)


class TestLists(unittest.TestCase):
    def setUp(self):
        self.box = Box(4, [3, 0], [(2, "b", "z", 0), (0, "b", "y", 3), (0, "a", "z", 3), (0, "b", "y", 1), LOOK])

    def test_states(self):
        self.assertEqual([Box(count, [0]).states for count in range(1, 7)], [1, 2, 3, 4, 5, 6])

    def test_all_are_sorted_lists_without_equal_elements(self):
        steps = [(0, "a", "z", 3), (0, "b", "y", 1), (0, "b", "y", 3), LOOK, (2, "b", "z", 0)]
        self.assertEqual(self.box.starts(), [0, 3])
        self.assertEqual(self.box.steps(), steps)
        self.assertEqual(self.box.calls(), ["a", "b", "look"])
        self.assertEqual(self.box.answers(), ["head", "y", "z"])
        self.assertEqual(self.box.signs(), [("a", "z"), ("b", "y"), ("b", "z"), ("look", "head")])
        self.assertEqual(self.box.reachable(), [0, 1, 3])

    def test_a_box_without_steps(self):
        box = Box(3, [2, 1])
        self.assertEqual((box.calls(), box.answers(), box.signs(), box.reachable()), ([], [], [], [1, 2]))
        self.assertEqual((box.steps_from(0), box.steps_to(2), box[1]), ([], [], {}))

    def test_the_sequence_of_what_is_passed_has_no_effect(self):
        steps = self.box.steps()
        for order in (steps, steps[::-1], steps[2:] + steps[:2]):
            self.assertEqual(parts(Box(4, [3, 0], order)), parts(self.box))

    def test_steps_are_sorted_as_tuples(self):
        steps = [(1, "a", "a", 0), (0, "b", "a", 0), (0, "a", "b", 1), (0, "a", "b", 0), (0, "a", "a", 1)]
        self.assertEqual(Box(2, [0], steps).steps(), steps[::-1])
        self.assertEqual(Box(6, [0], many_steps(24)).steps(), many_steps(24)[::-1])

    def test_signs_of_steps_that_share_a_call_or_an_answer(self):
        self.assertEqual(early().signs(), [("flip", "ok"), ("look", "head"), ("look", "tail")])
        self.assertEqual((early().calls(), early().answers()), (["flip", "look"], ["head", "ok", "tail"]))

    def test_steps_from_and_to(self):
        self.assertEqual(self.box.steps_from(0), [(0, "a", "z", 3), (0, "b", "y", 1), (0, "b", "y", 3)])
        self.assertEqual(self.box.steps_from(state=3), [])
        self.assertEqual(self.box.steps_to(3), [(0, "a", "z", 3), (0, "b", "y", 3)])
        self.assertEqual(self.box.steps_to(state=0), [LOOK, (2, "b", "z", 0)])
        self.assertEqual(Box(1, [0], [(0, "go", "ok", 0)]).steps_from(0), [(0, "go", "ok", 0)])
        self.assertEqual(Box(1, [0], [(0, "go", "ok", 0)]).steps_to(0), [(0, "go", "ok", 0)])


class TestReachable(unittest.TestCase):
    def test_an_unreachable_state(self):
        self.assertEqual(Box(3, [0], [(0, "go", "ok", 1)]).reachable(), [0, 1])
        self.assertEqual(Box(3, [0], [(0, "go", "ok", 1), (2, "go", "ok", 0)]).reachable(), [0, 1])
        self.assertEqual(Box(3, [1], [(0, "go", "ok", 1), (0, "go", "ok", 2)]).reachable(), [1])

    def test_unreachable_states_that_lead_to_each_other(self):
        self.assertEqual(Box(4, [3], [(0, "go", "ok", 1), (1, "go", "ok", 0), (2, "a", "a", 2)]).reachable(), [3])

    def test_a_long_way(self):
        for order in ([0, 1, 2, 3, 4, 5], [5, 4, 3, 2, 1, 0], [3, 0, 5, 1, 4, 2]):
            steps = [(order[place], "go", "ok", order[place + 1]) for place in range(5)]
            self.assertEqual(Box(6, [order[0]], steps).reachable(), [0, 1, 2, 3, 4, 5])
            self.assertEqual(Box(6, [order[3]], steps).reachable(), sorted(order[3:]))
            self.assertEqual(Box(6, [order[1]], steps + [(order[5], "go", "ok", order[1])]).reachable(), sorted(order[1:]))

    def test_all_starts_count(self):
        self.assertEqual(Box(5, [4, 1], [(1, "go", "ok", 2), (3, "go", "ok", 0)]).reachable(), [1, 2, 4])


class TestSure(unittest.TestCase):
    def check(self, box, sure):
        self.assertIs(box.is_sure, sure)

    def test_one_start(self):
        self.check(Box(2, [0]), True)
        self.check(Box(2, [1]), True)
        self.check(Box(2, [0, 1]), False)
        self.check(late(), True)
        self.check(late().with_starts([0, 2]), False)

    def test_one_step_with_each_sign_from_each_state(self):
        self.check(Box(2, [0], [GO, (0, "go", "ok", 0)]), False)
        self.check(Box(2, [0], [GO, (0, "go", "no", 1), (0, "stop", "ok", 1), (1, "go", "ok", 1)]), True)
        self.check(early(), False)

    def test_unreachable_states_count(self):
        self.check(Box(3, [0], [GO, (2, "go", "ok", 0), (2, "go", "ok", 1)]), False)


class TestItems(unittest.TestCase):
    def test_the_signs_of_a_state_lead_to_lists(self):
        self.assertEqual(early()[0], {("flip", "ok"): [1, 2]})
        self.assertEqual(early()[1], {("look", "head"): [3]})
        self.assertEqual(early()[3], {})

    def test_keys_and_lists_are_sorted(self):
        steps = [(0, "b", "a", 1), (0, "a", "b", 2), (0, "a", "a", 1), (0, "b", "a", 0), (1, "a", "a", 0)]
        told_first = Box(3, [0], steps)[0]
        self.assertEqual(list(told_first.items()), [(("a", "a"), [1]), (("a", "b"), [2]), (("b", "a"), [0, 1])])
        self.assertEqual((type(told_first), type(told_first[("a", "a")])), (dict, list))

    def test_the_length_is_the_number_of_steps(self):
        self.assertEqual((len(Box(6, [0])), len(late()), len(early())), (0, 3, 4))

    def test_iterating_gives_the_steps_sorted(self):
        self.assertEqual(list(Box(2, [0], [LOOK, GO])), [GO, LOOK])
        self.assertEqual([step for step in early()], early().steps())
        self.assertEqual(list(Box(1, [0])), [])
        box = early()
        self.assertEqual([(first, second) for first in box for second in box][5], (box.steps()[1], box.steps()[1]))


class TestIn(unittest.TestCase):
    def test_steps_of_the_box(self):
        box = early()
        for step in many_steps(36) + late().steps() + box.steps():
            self.assertIs(step in box, step in box.steps())
        self.assertIs(GO in Box(2, [0], [GO]), True)
        self.assertIs(GO in Box(2, [0]), False)

    def test_any_value_gives_a_bool(self):
        box = Box(2, [0], [(0, "go", "ok", 0)])
        for value in unlike_values():
            with self.subTest(value=told(value)):
                self.assertIs(value in box, isinstance(value, tuple) and value == (0, "go", "ok", 0))

    def test_true_and_false_are_not_taken_for_states(self):
        box = Box(2, [0], [GO])
        for value in ((False, "go", "ok", 1), (0, "go", "ok", True), (False, "go", "ok", True)):
            self.assertIs(value in box, False)

    def test_values_that_are_nearly_steps(self):
        box = Box(2, [0], [GO])
        wrong = [list(GO), GO[:3], GO + (1,), (GO,), (0, "go", ["ok"], 1), (0, EqualToAll(), "ok", 1), (0, {}, "ok", 1)]
        for value in wrong + [(0, "go", "ok", 2), (1, "go", "ok", 0), ("go", "ok"), {GO}, box]:
            self.assertIs(value in box, False, told(value))


class TestInvalidState(unittest.TestCase):
    def check(self, box, value):
        for ask in (box.steps_from, box.steps_to, lambda state: box[state]):
            with self.subTest(value=told(value)):
                with self.assertRaises(InvalidState) as caught:
                    ask(value)
                self.assertIs(caught.exception.value, value)

    def test_values_of_many_kinds(self):
        box = early()
        before = parts(box)
        for value in unlike_values():
            if not (type(value) is int and 0 <= value < 4):
                self.check(box, value)
        self.assertEqual(parts(box), before)

    def test_the_edges(self):
        for count in range(1, 7):
            box = Box(count, [0])
            for value in (count, count + 1, -1, -count, True, False, None, (0,), [0], "0", slice(0, 1)):
                self.check(box, value)
            self.assertEqual((box[count - 1], box.steps_from(count - 1), box.steps_to(0)), ({}, [], []))


class TestNew(unittest.TestCase):
    def test_what_was_told_changed_afterwards_has_no_effect(self):
        box = early()
        before = parts(box)
        asks = [box.starts, box.steps, box.calls, box.answers, box.signs, box.reachable]
        for ask in asks + [lambda: box.steps_from(0), lambda: box.steps_to(3)]:
            first = ask()
            first.append("more")
            first[0] = None
            first.reverse()
            self.assertIsNot(ask(), first)
            self.assertNotEqual(ask(), first)
            self.assertEqual(parts(box), before)

    def test_the_dict_of_a_state_and_its_lists_are_new(self):
        box = early()
        first = box[0]
        first[("flip", "ok")].append(9)
        self.assertEqual(box[0], {("flip", "ok"): [1, 2]})
        first.clear()
        self.assertEqual(box[0], {("flip", "ok"): [1, 2]})
        self.assertEqual(box.steps(), early().steps())

    def test_a_repeated_call_returns_an_equal_result(self):
        for box in (early(), late(), Box(6, [1, 5], many_steps(24))):
            self.assertEqual(parts(box), parts(box))
            self.assertIs(box.is_sure, box.is_sure)

    def test_a_box_takes_no_other_number_of_states(self):
        box = late()
        with self.assertRaises(AttributeError):
            box.states = 5
        with self.assertRaises(AttributeError):
            box.is_sure = False
        self.assertEqual(box, late())


class TestEqual(unittest.TestCase):
    def same(self, one, other):
        self.assertIs(one == other, True)
        self.assertIs(one != other, False)

    def unlike(self, one, other):
        self.assertIs(one == other, False)
        self.assertIs(other == one, False)
        self.assertIs(one != other, True)

    def test_all_parts_are_equal(self):
        self.same(late(), late())
        self.same(Box(2, [1, 0], [LOOK, GO]), Box(2, (0, 1), (GO, LOOK)))

    def test_one_part_is_not(self):
        box = Box(2, [0], [GO])
        self.unlike(box, Box(3, [0], [GO]))
        self.unlike(box, Box(2, [1], [GO]))
        self.unlike(box, Box(2, [0, 1], [GO]))
        self.unlike(box, Box(2, [0]))
        self.unlike(box, Box(2, [0], [LOOK]))
        self.unlike(box, Box(2, [0], [GO, LOOK]))
        self.unlike(early(), late())

    def test_values_of_another_kind(self):
        for box in (Box(1, [0]), Box(2, [0], [GO])):
            for value in unlike_values():
                if not isinstance(value, (Box, EqualToAll)):
                    with self.subTest(value=told(value)):
                        self.unlike(box, value)
            for value in (repr(box), box.steps(), (box.states, box.starts(), box.steps()), [box], None):
                self.unlike(box, value)
            self.assertIs(box == EqualToAll(), False)


class TestRepr(unittest.TestCase):
    def test_sorted_lists(self):
        self.assertEqual(repr(Box(2, (0,), (GO,))), "Box(2, [0], [(0, 'go', 'ok', 1)])")
        self.assertEqual(repr(Box(1, [0])), "Box(1, [0], [])")
        text = "Box(2, [0, 1], [(0, 'go', 'ok', 1), (1, 'look', 'head', 0)])"
        self.assertEqual(repr(Box(2, [1, 0], [LOOK, GO])), text)
        self.assertEqual(str(Box(2, [1, 0], [LOOK, GO])), text)

    def test_it_can_be_read_again(self):
        for box in (early(), late(), Box(6, [5, 2], many_steps(24))):
            self.assertEqual(eval(repr(box), {"Box": Box}), box)
