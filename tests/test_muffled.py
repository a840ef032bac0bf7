"""Points [2], [71] to [73]: muffled boxes, and what they are made to be."""

import unittest

from aheadbehind.basics import is_integer
from aheadbehind.boxes import Box
from aheadbehind.errors import (
    InvalidCalls, InvalidHidden, InvalidStarts, InvalidState, InvalidStates, InvalidSteps, TakenAnswer, TooMany,
)
from aheadbehind.muffled import Muffled
from tests import plain_more
from tests.refusals import Refusals
from tests.values import (
    EqualToAll, early, late, many_steps, parts, ring, told, unlike_values, wide, wrong_calls, wrong_lists, wrong_states,
)

GO = (0, "go", "ok", 0)
LINKS = [(state, to) for state in range(6) for to in range(6)]


def shy():
    """A muffled box that may fall silent."""
    return Muffled(2, [0], [GO], [(0, 1)])


def all_of(muffled):
    """All that a muffled box tells, to see that it did not change."""
    states = range(muffled.bare().states)
    inner = [(muffled.moves(state), muffled.refused(state)) for state in states]
    made = [parts(muffled.plain()), parts(muffled.firm(["go"])), parts(muffled.awake(["go"]))]
    return parts(muffled.bare()), muffled.hidden(), inner, muffled.endless(), made, repr(muffled)


class TestMade(Refusals):
    def test_by_position_and_by_name(self):
        box = shy()
        self.assertEqual(Muffled(states=2, starts=[0], steps=[GO], hidden=[(0, 1)]), box)
        self.assertEqual(Muffled(hidden=[(0, 1)], steps=[GO], starts=[0], states=2), box)
        self.assertEqual(Muffled(2, [0], [GO], hidden=((0, 1),)), box)
        self.assertEqual((box.bare(), box.hidden()), (Box(2, [0], [GO]), [(0, 1)]))
        self.assertIs(type(box.bare()), Box)

    def test_without_hidden_steps(self):
        for box in (Muffled(2, [1], [GO]), Muffled(2, [1], [GO], []), Muffled(2, [1], [GO], ())):
            self.assertEqual((box.bare(), box.hidden()), (Box(2, [1], [GO]), []))
        with self.assertRaises(TypeError):
            Muffled(2, [1])

    def test_tuples_in_the_place_of_lists(self):
        box = Muffled(2, (1, 0), (GO,), ((1, 1), (0, 1)))
        self.assertEqual(box, Muffled(2, [0, 1], [GO], [(0, 1), (1, 1)]))
        self.assertEqual((type(box.hidden()), box.hidden()), (list, [(0, 1), (1, 1)]))

    def test_it_is_no_box(self):
        self.assertFalse(isinstance(shy(), Box))
        self.assertFalse(issubclass(Muffled, Box))

    def test_the_limits_are_kept(self):
        box = Muffled(6, list(range(6)), many_steps(24), LINKS[:12])
        self.assertEqual((box.bare().states, len(box.bare()), len(box.hidden())), (6, 24, 12))
        self.refuse(TooMany, ["states", 6], Muffled, 7, [0], [], [])
        self.refuse(TooMany, ["steps", 24], Muffled, 6, [0], many_steps(25), [])
        self.refuse(TooMany, ["hidden", 12], Muffled, 6, [0], [], LINKS[:13])
        self.refuse(TooMany, ["hidden", 12], Muffled, 6, [0], hidden=tuple(LINKS[:13]), steps=())

    def test_the_sequence_of_the_limits(self):
        self.refuse(TooMany, ["states", 6], Muffled, 7, [0], many_steps(25), LINKS[:13])
        self.refuse(TooMany, ["steps", 24], Muffled, 6, [0], many_steps(25), LINKS[:13])

    def test_what_is_invalid_stands_ahead_of_the_limits(self):
        self.refuse(InvalidHidden, [13], Muffled, 7, [0], many_steps(25), LINKS[:13] + [(7, 7)])
        self.refuse(InvalidHidden, [None], Muffled, 7, [0], many_steps(25), None)
        self.refuse(InvalidSteps, [0], Muffled, 7, [0], [None], LINKS[:13])
        self.refuse(InvalidStarts, [0], Muffled, 7, [7], many_steps(25), LINKS[:13])

    def test_what_was_passed_is_copied_and_not_changed(self):
        starts, steps, hidden = [1, 0], [(1, "go", "ok", 0), GO], [(1, 0), (0, 1)]
        box = Muffled(2, starts, steps, hidden)
        self.assertEqual((starts, steps, hidden), ([1, 0], [(1, "go", "ok", 0), GO], [(1, 0), (0, 1)]))
        before = all_of(box)
        for passed in (starts, steps, hidden):
            passed.clear()
        self.assertEqual(all_of(box), before)

    def test_what_is_told_is_new(self):
        box = shy()
        before = all_of(box)
        for found in (box.hidden(), box.moves(0), box.refused(1), box.endless(), box.bare().steps()):
            found.append("changed")
        self.assertEqual(all_of(box), before)


class TestInvalid(Refusals):
    def test_states_starts_and_steps_as_of_a_box(self):
        for value in unlike_values():
            if not is_integer(value) or value < 1:
                self.refuse(InvalidStates, [value], Muffled, value, None, None, None)
        self.refuse(InvalidStarts, [None], Muffled, 2, [], None, None)
        for starts, position in wrong_lists([0, 1], lambda value: is_integer(value) and 0 <= value < 3):
            self.refuse(InvalidStarts, [position], Muffled, 3, starts, None, None)
        self.refuse(InvalidStarts, [1], Muffled, 2, [0, 0], [], [])
        for steps, position in wrong_lists([GO, (1, "go", "ok", 0)], lambda value: Box.is_step(2, value)):
            self.refuse(InvalidSteps, [position], Muffled, 2, [0], steps, None)
        self.refuse(InvalidSteps, [1], Muffled, 2, [0], [GO, GO], [])

    def test_hidden_steps_that_are_none(self):
        right = [(0, 0), (1, 0)]
        for hidden, position in wrong_lists(right, lambda value: value in right):
            self.refuse(InvalidHidden, [position], Muffled, 2, [0], [GO], hidden)
            self.refuse(InvalidHidden, [position], Muffled, 2, [0], [], hidden=hidden)

    def test_hidden_steps_in_other_forms(self):
        for wrong in ([0, 1], (0,), (0, 1, 1), (0, 2), (2, 0), (-1, 0), (0, -1), (False, 1), (0, True), ("0", 1), "01",
                      (EqualToAll(), 0), (0, EqualToAll()), (0, None), ((0, 1),), (0, "go", "ok", 1), b"\x00\x01"):
            for place in range(3):
                hidden = [(0, 1), (1, 1)]
                hidden.insert(place, wrong)
                self.refuse(InvalidHidden, [place], Muffled, 2, [0], [], hidden)
        for hidden, place in (([(0, 1), (0, 1)], 1), ([(1, 1), (0, 1), (1, 1)], 2), (((0, 0), (0, 0), None), 1)):
            self.refuse(InvalidHidden, [place], Muffled, 2, [0], [], hidden)

    def test_one_state_twice_is_a_hidden_step(self):
        self.assertEqual(Muffled(1, [0], [], [(0, 0)]).hidden(), [(0, 0)])


class TestOf(Refusals):
    def test_the_steps_with_these_calls_are_hidden(self):
        box = Muffled.of(early(), ["flip"])
        steps = [(1, "look", "head", 3), (2, "look", "tail", 3)]
        self.assertIs(type(box), Muffled)
        self.assertEqual(box, Muffled(4, [0], steps, [(0, 1), (0, 2)]))
        self.assertEqual(Muffled.of(calls=("look", "flip"), box=early()), Muffled(4, [0], [], [(0, 1), (0, 2), (1, 3), (2, 3)]))

    def test_no_call_and_calls_that_the_box_does_not_have(self):
        for calls in ([], (), ["go"], ["off", "go"]):
            self.assertEqual(Muffled.of(early(), calls), Muffled(4, [0], early().steps()))
        self.assertEqual(Muffled.of(late(), ["off", "flip"]), Muffled(3, [0], late().steps()[1:], [(0, 1)]))

    def test_hidden_steps_that_become_equal_are_one(self):
        box = Box(2, [0], [(0, "go", "ok", 1), (0, "go", "no", 1), (0, "off", "ok", 1), (1, "off", "ok", 1)])
        self.assertEqual(Muffled.of(box, ["go", "off"]), Muffled(2, [0], [], [(0, 1), (1, 1)]))
        self.assertEqual(Muffled.of(late(), ["look"]).hidden(), [(1, 2)])

    def test_it_has_no_limits(self):
        free = wide(8, [3], [(a, call, "ok", b) for a in range(8) for b in range(8) for call in ("go", "off")])
        box = Muffled.of(free, ["off"])
        self.assertEqual((box.bare().states, len(box.bare()), len(box.hidden())), (8, 64, 64))
        self.assertEqual(box.moves(7), list(range(8)))
        self.assertEqual(box.plain().starts(), list(range(8)))
        self.assertEqual(Muffled.of(ring(30), ["go"]).endless(), list(range(30)))

    def test_calls_that_are_none(self):
        for calls, position in wrong_calls():
            self.refuse(InvalidCalls, [position], Muffled.of, late(), calls)
            self.refuse(InvalidCalls, [position], Muffled.of, calls=calls, box=late())

    def test_the_box_and_the_calls_do_not_change(self):
        box, calls = early(), ["flip"]
        made = Muffled.of(box, calls)
        before = all_of(made)
        self.assertEqual((parts(box), calls), (parts(early()), ["flip"]))
        calls.append("look")
        self.assertEqual(all_of(made), before)

    def test_steps_that_are_hidden_have_no_answers(self):
        box = Box(2, [0], [(0, "go", "no", 1), (0, "off", "ever", 1), (0, "look", "ok", 1)])
        self.refuse(TakenAnswer, ["no"], Muffled.of(box, ["off"]).wary, [])
        self.assertEqual(Muffled.of(box, ["go", "off"]).wary([]).states, 3)


class TestTold(Refusals):
    def test_moves(self):
        box = Muffled(6, [0], [GO], [(0, 1), (1, 2), (2, 1), (3, 3), (5, 0), (4, 3)])
        self.assertEqual([box.moves(state) for state in range(6)],
                         [[0, 1, 2], [1, 2], [1, 2], [3], [3, 4], [0, 1, 2, 5]])
        self.assertEqual(box.moves(state=4), [3, 4])
        self.assertEqual(Muffled(2, [0], [GO]).moves(1), [1])

    def test_refused(self):
        box = Muffled(4, [0], [(0, "go", "ok", 1), (1, "off", "ok", 0), (1, "off", "up", 1), (2, "go", "ok", 2)],
                      [(2, 3), (0, 0)])
        self.assertEqual([box.refused(state) for state in range(4)], [[], ["go"], [], ["go", "off"]])
        self.assertEqual(box.refused(state=3), ["go", "off"])
        self.assertEqual(Muffled(1, [0], []).refused(0), [])

    def test_states_that_are_not_reachable_refuse_too(self):
        self.assertEqual(Muffled(2, [0], [GO]).refused(1), ["go"])

    def test_endless(self):
        self.assertEqual(Muffled(1, [0], [], [(0, 0)]).endless(), [0])
        self.assertEqual(Muffled(3, [0], [], [(0, 1), (1, 2)]).endless(), [])
        self.assertEqual(Muffled(3, [0], [], [(0, 1), (1, 0)]).endless(), [0, 1])
        self.assertEqual(Muffled(4, [0], [], [(3, 2), (2, 1), (1, 1)]).endless(), [1, 2, 3])
        self.assertEqual(Muffled(4, [0], [], [(0, 1), (0, 2), (2, 3), (3, 2)]).endless(), [0, 2, 3])
        self.assertEqual(Muffled(6, [0], [(0, "go", "ok", 5)], [(4, 5), (5, 3), (3, 4)]).endless(), [3, 4, 5])
        self.assertEqual(shy().endless(), [])

    def test_states_that_are_none(self):
        box = Muffled(3, [0], [GO], [(0, 1)])
        for value in wrong_states(3):
            for deed in (box.moves, box.refused):
                self.refuse(InvalidState, [value], deed, value)
                self.refuse(InvalidState, [value], deed, state=value)


class TestMadePlain(unittest.TestCase):
    def test_hidden_steps_ahead_and_behind(self):
        box = Muffled(4, [0], [(1, "go", "ok", 2)], [(0, 1), (2, 3)])
        steps = [(0, "go", "ok", 2), (0, "go", "ok", 3), (1, "go", "ok", 2), (1, "go", "ok", 3)]
        self.assertEqual(box.plain(), Box(4, [0, 1], steps))
        self.assertIs(type(box.plain()), Box)

    def test_no_hidden_step_at_all(self):
        for box in (late(), early(), early().with_starts([1, 3])):
            self.assertEqual(Muffled(box.states, box.starts(), box.steps()).plain(), box)

    def test_a_step_from_a_state_to_itself_adds_nothing(self):
        box = Muffled(3, [0], late().steps(), [(0, 0), (1, 1), (2, 2)])
        self.assertEqual(box.plain(), late())

    def test_rings_of_hidden_steps(self):
        box = Muffled(3, [0], [(0, "go", "ok", 2)], [(0, 1), (1, 0)])
        self.assertEqual(box.plain(), Box(3, [0, 1], [(0, "go", "ok", 2), (1, "go", "ok", 2)]))

    def test_more_than_24_steps(self):
        hidden = [(state, (state + 1) % 6) for state in range(6)]
        box = Muffled(6, [0], [GO], hidden).plain()
        self.assertEqual((box.starts(), len(box)), (list(range(6)), 36))


class TestMadeFirm(Refusals):
    def test_refused_calls_are_answered_no(self):
        wanted = Box(2, [0, 1], [(0, "go", "no", 1), (0, "go", "ok", 0), (0, "go", "ok", 1), (1, "go", "no", 1)])
        self.assertEqual(shy().firm(["go"]), wanted)
        self.assertEqual(shy().firm(calls=("go",)), wanted)

    def test_only_these_calls(self):
        box = Muffled(1, [0], [GO, (0, "off", "ok", 0)])
        self.assertEqual(box.firm([]), box.bare())
        self.assertEqual(box.firm(["go", "off"]), box.bare())
        self.assertEqual(shy().firm([]), shy().plain())
        self.assertEqual(shy().firm(["off"]), shy().plain() + (0, "off", "no", 1) + (1, "off", "no", 1))

    def test_a_call_that_the_box_does_not_have_is_refused_by_all_states_at_rest(self):
        box = Muffled(3, [0], [(0, "go", "ok", 1)], [(2, 0), (1, 1)])
        steps = [(0, "up", "no", 0), (2, "up", "no", 0)]
        self.assertEqual(box.firm(["up"]), box.plain() + steps[0] + steps[1])

    def test_states_that_do_not_rest_refuse_nothing(self):
        box = Muffled(2, [0], [], [(0, 0), (1, 1)])
        self.assertEqual(box.firm(["go"]), Box(2, [0]))

    def test_calls_that_are_none(self):
        for calls, position in wrong_calls():
            self.refuse(InvalidCalls, [position], shy().firm, calls)

    def test_taken_answers(self):
        box = Muffled(2, [0], [(1, "go", "no", 1), (1, "go", "ever", 1)])
        self.refuse(TakenAnswer, ["no"], box.firm, [])
        self.refuse(TakenAnswer, ["no"], box.firm, calls=("go",))
        self.refuse(InvalidCalls, [0], box.firm, [None])
        self.assertEqual(Muffled(1, [0], [(0, "no", "ever", 0)]).firm(["no"]), Box(1, [0], [(0, "no", "ever", 0)]))


class TestMadeAwake(Refusals):
    def test_endless_states_answer_ever(self):
        self.assertEqual(Muffled(1, [0], [], [(0, 0)]).awake(["go"]), Box(2, [0], [(0, "go", "ever", 1)]))
        box = Muffled(3, [0], [(0, "go", "ok", 1)], [(1, 2), (2, 1)])
        more = [(state, call, "ever", 3) for call in ("go", "up") for state in (1, 2)]
        plain = box.plain().steps()
        self.assertEqual(box.awake(["up", "go"]), wide(4, [0], plain + more))
        self.assertEqual(box.awake(calls=("go",)), wide(4, [0], plain + more[:2]))

    def test_there_is_one_state_more_in_any_case(self):
        for calls in ([], ["go"]):
            self.assertEqual(Muffled(2, [1], [GO]).awake(calls), Box(3, [1], [GO]))
        self.assertEqual(Muffled(1, [0], [], [(0, 0)]).awake([]), Box(2, [0]))

    def test_endless_states_that_are_not_reachable(self):
        self.assertEqual(Muffled(2, [0], [], [(1, 1)]).awake(["go"]), Box(3, [0], [(1, "go", "ever", 2)]))

    def test_more_than_six_states(self):
        box = Muffled(6, [0], [], [(5, 5)]).awake(["go"])
        self.assertEqual((box.states, box.steps()), (7, [(5, "go", "ever", 6)]))

    def test_calls_that_are_none(self):
        for calls, position in wrong_calls():
            self.refuse(InvalidCalls, [position], shy().awake, calls)

    def test_taken_answers(self):
        box = Muffled(2, [0], [(1, "go", "no", 1), (1, "go", "ever", 1)])
        self.refuse(TakenAnswer, ["ever"], box.awake, [])
        self.refuse(InvalidCalls, [None], box.awake, calls=None)
        self.assertEqual(len(Muffled(1, [0], [(0, "ever", "no", 0)], [(0, 0)]).awake(["go"])), 2)


class TestMadeWary(Refusals):
    def test_both(self):
        box = Muffled(3, [0], [(0, "go", "ok", 1)], [(1, 1), (0, 2)])
        steps = [(0, "go", "ok", 1), (0, "go", "no", 2), (2, "go", "no", 2), (1, "go", "ever", 3)]
        self.assertEqual(box.wary(["go"]), Box(4, [0, 2], steps))
        self.assertEqual(box.wary(calls=()), Box(4, [0, 2], steps[:1]))

    def test_the_last_state_refuses_nothing(self):
        self.assertEqual(Muffled(1, [0], [], [(0, 0)]).wary(["go"]), Box(2, [0], [(0, "go", "ever", 1)]))
        self.assertEqual(Muffled(1, [0], []).wary(["go"]), Box(2, [0], [(0, "go", "no", 0)]))

    def test_calls_that_are_none(self):
        for calls, position in wrong_calls():
            self.refuse(InvalidCalls, [position], shy().wary, calls)

    def test_taken_answers_no_first(self):
        for answers, value in ((("no",), "no"), (("ever",), "ever"), (("ever", "no"), "no"), (("ok", "ever"), "ever")):
            box = Muffled(1, [0], [(0, "go", answer, 0) for answer in answers])
            self.refuse(TakenAnswer, [value], box.wary, ["go"])
            self.refuse(TakenAnswer, [value], box.wary, [])
            self.refuse(InvalidCalls, [1], box.wary, ["go", "go"])


class TestEqual(unittest.TestCase):
    def test_equal_boxes_and_hidden_steps(self):
        box = Muffled(2, [0, 1], [GO, (1, "go", "ok", 1)], [(0, 1), (1, 1)])
        self.assertTrue(box == Muffled(2, [1, 0], [(1, "go", "ok", 1), GO], [(1, 1), (0, 1)]))
        self.assertFalse(box != Muffled(2, [1, 0], [(1, "go", "ok", 1), GO], [(1, 1), (0, 1)]))
        for other in (Muffled(3, [0, 1], box.bare().steps(), box.hidden()), Muffled(2, [0], box.bare().steps(), box.hidden()),
                      Muffled(2, [0, 1], [GO], box.hidden()), Muffled(2, [0, 1], box.bare().steps(), [(0, 1)]),
                      Muffled(2, [0, 1], box.bare().steps())):
            self.assertFalse(box == other)
            self.assertTrue(box != other)

    def test_values_of_other_kinds(self):
        for value in unlike_values() + [Box(2, [0], [GO]), (Box(2, [0], [GO]), [])]:
            if not isinstance(value, EqualToAll):
                self.assertFalse(Muffled(2, [0], [GO]) == value, told(value))
                self.assertFalse(value == Muffled(2, [0], [GO]), told(value))

    def test_repr(self):
        self.assertEqual(repr(Muffled(2, [0], [], [(0, 1)])), "Muffled(2, [0], [], [(0, 1)])")
        self.assertEqual(repr(Muffled(2, [1, 0], [(1, "go", "ok", 0), GO], ((1, 1), (0, 1)))),
                         "Muffled(2, [0, 1], [(0, 'go', 'ok', 0), (1, 'go', 'ok', 0)], [(0, 1), (1, 1)])")
        self.assertEqual(repr(Muffled(1, [0], [])), "Muffled(1, [0], [], [])")


class TestFacts(unittest.TestCase):
    """Against a plain reckoning over many small muffled boxes."""

    def test_what_they_tell_and_are_made(self):
        rings, rests = 0, 0
        for given in plain_more.some_parts(300, 211, 4, 6, 5):
            states, _, steps, hidden = given
            box = Muffled(*given)
            for state in range(states):
                self.assertEqual(box.moves(state), plain_more.moves(states, hidden, state))
                refused = [call for call in sorted({step[1] for step in steps}) if plain_more.refuses(given, state, call)]
                self.assertEqual(box.refused(state), refused)
                rests += bool(refused)
            self.assertEqual(box.endless(), plain_more.endless(given))
            rings += bool(box.endless())
            self.check(box.plain(), plain_more.plain_made(given))
            for calls in (["a"], ["c", "b"], []):
                for reading, deed in (("firm", box.firm), ("awake", box.awake), ("wary", box.wary)):
                    self.check(deed(calls), plain_more.made(given, reading, calls))
        self.assertTrue(rings > 40 and rests > 40)

    def check(self, box, wanted):
        self.assertEqual((box.states, box.starts(), box.steps()), wanted)

    def test_boxes_with_some_calls_hidden(self):
        for states, starts, steps, _ in plain_more.some_parts(100, 223, 4, 9, 0):
            for calls in ([], ["a"], ["b"], ["b", "a"], ["c"]):
                box = Muffled.of(Box(states, starts, steps), calls)
                kept = [step for step in steps if step[1] not in calls]
                hidden = sorted({(step[0], step[3]) for step in steps if step[1] in calls})
                self.assertEqual((box.bare(), box.hidden()), (Box(states, starts, kept), hidden))


if __name__ == "__main__":
    unittest.main()
