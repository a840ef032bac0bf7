"""Point [83]: a listener, which knows where a box may be, and where it may have been."""

import unittest

from aheadbehind.basics import is_name, is_sign
from aheadbehind.boxes import Box
from aheadbehind.errors import InvalidCall, InvalidNumber, InvalidRow, InvalidSign, NotGiven, NothingToUndo, TooMany
from aheadbehind.listener import Listener
from tests import plain
from tests.refusals import Refusals
from tests.values import EqualToAll, early, parts, ring, unlike_values, wide, wrong_numbers, wrong_rows

FLIP = ("flip", "ok")
HEAD = ("look", "head")
TAIL = ("look", "tail")
GO = ("go", "ok")


class Stop(Exception):
    """An error of the test alone."""


def state_of(listener):
    """All that a listener tells, and how often something can be taken back."""
    count = 0
    seen = [(listener.row, listener.now(), len(listener), [listener.at(at) for at in range(len(listener) + 1)])]
    with listener.trial():
        try:
            while True:
                listener.undo()
                count += 1
                seen.append((listener.row, listener.now()))
        except NothingToUndo:
            pass
    return seen, count


class TestMade(Refusals):
    def test_without_a_row(self):
        box = early()
        for ear in (Listener(box), Listener(box=box), Listener(box, []), Listener(box, ()), Listener(box, row=())):
            self.assertIs(ear.box, box)
            self.assertEqual((ear.row, type(ear.row), len(ear), ear.now()), ([], list, 0, [0]))
            self.refuse(NothingToUndo, [], ear.undo)

    def test_with_a_row(self):
        for row in ([FLIP, TAIL], (FLIP, TAIL)):
            for ear in (Listener(early(), row), Listener(row=row, box=early())):
                self.assertEqual((ear.row, type(ear.row), len(ear), ear.now()), ([FLIP, TAIL], list, 2, [3]))
                self.refuse(NothingToUndo, [], ear.undo)

    def test_two_starts(self):
        self.assertEqual(Listener(Box(3, [2, 1])).now(), [1, 2])

    def test_rows_that_are_none(self):
        for row, position in wrong_rows():
            self.refuse(InvalidRow, [position], Listener, early(), row)
            self.refuse(InvalidRow, [position], Listener, row=row, box=ring(8))

    def test_the_first_sign_that_is_not_given(self):
        for row, position in (([TAIL], 0), ([GO], 0), ([FLIP, FLIP], 1), ([FLIP, GO, TAIL], 1), ([FLIP, TAIL, TAIL], 2),
                              ([FLIP, HEAD, FLIP, GO], 2), ((TAIL, FLIP), 0)):
            self.refuse(NotGiven, [position], Listener, early(), row)
        for place in range(6):
            row = [GO] * 5
            row.insert(place, ("go", "no"))
            self.refuse(NotGiven, [place], Listener, ring(3), row)

    def test_seven_states_and_eight(self):
        self.assertEqual(Listener(ring(7), [GO] * 8).now(), [1])
        self.refuse(TooMany, ["states", 7], Listener, ring(8))
        self.refuse(TooMany, ["states", 7], Listener, ring(8), [TAIL])
        self.refuse(TooMany, ["states", 7], Listener, box=wide(8), row=())

    def test_the_row_is_copied(self):
        row = [FLIP]
        ear = Listener(early(), row)
        row.append(TAIL)
        row[0] = GO
        self.assertEqual(ear.row, [FLIP])

    def test_what_is_told_is_new(self):
        ear = Listener(early(), [FLIP])
        before = state_of(ear)
        for found in (ear.row, ear.now(), ear.at(0), ear.answers("look"), ear("look", "head")):
            found.append("changed")
        ear.undo()
        self.assertEqual(state_of(ear), before)
        self.assertEqual(parts(ear.box), parts(early()))


class TestHears(Refusals):
    def test_hear(self):
        ear = Listener(early())
        self.assertIs(ear.hear("flip", "ok"), None)
        self.assertEqual((ear.row, ear.now(), len(ear)), ([FLIP], [1, 2], 1))
        self.assertIs(ear.hear(answer="tail", call="look"), None)
        self.assertEqual((ear.row, ear.now(), len(ear)), ([FLIP, TAIL], [3], 2))

    def test_called(self):
        ear = Listener(early())
        self.assertEqual(ear("flip", "ok"), [1, 2])
        self.assertEqual(ear(answer="head", call="look"), [3])
        self.assertEqual(ear.row, [FLIP, HEAD])

    def test_in_place(self):
        ear = same = Listener(early())
        ear += FLIP
        ear += ("look", "tail")
        self.assertIs(ear, same)
        self.assertEqual((same.row, same.now()), ([FLIP, TAIL], [3]))

    def add(self, ear, sign):
        ear += sign

    def test_signs_that_are_none(self):
        ear = Listener(early(), [FLIP])
        before = state_of(ear)
        for value in unlike_values():
            if not is_name(value):
                for given in ((value, "tail"), ("look", value), (value, value)):
                    for deed in (ear.hear, ear):
                        self.refuse(InvalidSign, [given], deed, *given)
                        self.refuse(InvalidSign, [given], deed, answer=given[1], call=given[0])
                    self.refuse(InvalidSign, [given], self.add, ear, given)
            if not is_sign(value):
                self.refuse(InvalidSign, [value], self.add, ear, value)
        for value in (["look", "tail"], ("look",), ("look", "tail", "tail"), "look tail", ("Look", "tail"), [TAIL], (TAIL,)):
            self.refuse(InvalidSign, [value], self.add, ear, value)
        self.assertEqual(state_of(ear), before)

    def test_signs_that_the_box_cannot_give_now(self):
        for row in ([], [FLIP], [FLIP, TAIL]):
            ear = Listener(early(), row)
            before = state_of(ear)
            for sign in (FLIP, HEAD, TAIL, GO, ("look", "ok"), ("flip", "tail")):
                if not plain.gives(early(), row + [sign]):
                    self.refuse(NotGiven, [len(row)], ear.hear, *sign)
                    self.refuse(NotGiven, [len(row)], ear, *sign)
                    self.refuse(NotGiven, [len(row)], self.add, ear, sign)
            self.assertEqual(state_of(ear), before)

    def test_the_position_counts_the_passed_row_and_what_was_taken_back(self):
        ear = Listener(ring(2), [GO, GO])
        ear.hear(*GO)
        self.refuse(NotGiven, [3], ear.hear, "go", "no")
        ear.undo()
        self.refuse(NotGiven, [2], ear, "go", "no")


class TestKnows(Refusals):
    def test_now_and_at(self):
        ear = Listener(early(), [FLIP])
        self.assertEqual([ear.at(0), ear.at(1)], [[0], [1, 2]])
        ear.hear(*TAIL)
        self.assertEqual([ear.at(0), ear.at(1), ear.at(number=2)], [[0], [2], [3]])
        self.assertEqual(ear.at(2), ear.now())

    def test_where_it_may_have_been_hangs_on_what_was_heard_later(self):
        box = Box(4, [0, 1], [(0, "go", "ok", 2), (1, "go", "ok", 2), (1, "go", "ok", 3), (3, "up", "ok", 0)])
        ear = Listener(box)
        self.assertEqual(ear.at(0), [0, 1])
        self.assertEqual(ear("go", "ok"), [2, 3])
        self.assertEqual((ear.at(0), ear.at(1)), ([0, 1], [2, 3]))
        self.assertEqual(ear("up", "ok"), [0])
        self.assertEqual((ear.at(0), ear.at(1), ear.at(2)), ([1], [3], [0]))

    def test_numbers_that_are_none(self):
        for row in ([], [FLIP], [FLIP, TAIL]):
            ear = Listener(early(), row)
            for value in wrong_numbers(0, len(row)):
                self.refuse(InvalidNumber, [value], ear.at, value)
                self.refuse(InvalidNumber, [value], ear.at, number=value)

    def test_answers(self):
        ear = Listener(early())
        self.assertEqual((ear.answers("flip"), ear.answers("look"), ear.answers("go")), (["ok"], [], []))
        ear.hear(*FLIP)
        self.assertEqual((ear.answers("flip"), ear.answers(call="look")), ([], ["head", "tail"]))
        ear.hear(*HEAD)
        self.assertEqual((ear.answers("flip"), ear.answers("look")), ([], []))

    def test_each_answer_once_and_sorted(self):
        steps = [(0, "go", "b", 1), (0, "go", "a", 1), (0, "go", "b", 0), (1, "go", "a", 0), (0, "up", "c", 0)]
        self.assertEqual(Listener(Box(2, [0, 1], steps)).answers("go"), ["a", "b"])

    def test_calls_that_are_none(self):
        ear = Listener(early())
        for value in unlike_values() + [FLIP, ["flip"], "Flip", "flip "]:
            if not is_name(value):
                self.refuse(InvalidCall, [value], ear.answers, value)
                self.refuse(InvalidCall, [value], ear.answers, call=value)


class TestUndo(Refusals):
    def test_the_last_sign_that_was_not_taken_back(self):
        ear = Listener(early())
        ear.hear(*FLIP)
        ear.hear(*TAIL)
        self.assertIs(ear.undo(), None)
        self.assertEqual((ear.row, ear.now(), ear.at(1)), ([FLIP], [1, 2], [1, 2]))
        ear.hear(*HEAD)
        self.assertEqual(ear.row, [FLIP, HEAD])
        ear.undo()
        ear.undo()
        self.assertEqual((ear.row, ear.now()), ([], [0]))
        self.refuse(NothingToUndo, [], ear.undo)
        self.assertEqual((ear.row, len(ear)), ([], 0))

    def test_down_to_the_passed_row(self):
        ear = Listener(ring(3), [GO, GO])
        ear.hear(*GO)
        ear += GO
        ear(*GO)
        for size in (4, 3, 2):
            ear.undo()
            self.assertEqual((len(ear), ear.now()), (size, [size % 3]))
        for _ in range(2):
            self.refuse(NothingToUndo, [], ear.undo)
        self.assertEqual(ear.row, [GO, GO])

    def test_begin_and_the_setting_of_row(self):
        for row, now in (([FLIP], [1, 2]), ((), [0]), ((FLIP, HEAD), [3])):
            for named in (False, True):
                ear = Listener(early(), [FLIP])
                ear.hear(*TAIL)
                if named:
                    self.assertIs(ear.begin(row=row), None)
                else:
                    ear.row = row
                self.assertEqual((ear.row, type(ear.row), ear.now(), len(ear)), (list(row), list, now, len(row)))
                self.refuse(NothingToUndo, [], ear.undo)
                if len(row) == 1:
                    ear.hear(*HEAD)
                    ear.undo()
                self.refuse(NothingToUndo, [], ear.undo)
                self.assertEqual(ear.row, list(row))

    def test_the_row_that_is_set_is_copied(self):
        ear, row = Listener(early()), [FLIP]
        ear.row = row
        row.clear()
        self.assertEqual(ear.row, [FLIP])
        row = [FLIP]
        ear.begin(row)
        row.append(TAIL)
        self.assertEqual(ear.row, [FLIP])

    def set_row(self, ear, row):
        ear.row = row

    def test_rows_that_are_none_or_not_given(self):
        ear = Listener(early(), [FLIP])
        ear.hear(*TAIL)
        before = state_of(ear)
        for row, position in wrong_rows():
            self.refuse(InvalidRow, [position], ear.begin, row)
            self.refuse(InvalidRow, [position], self.set_row, ear, row)
        for row, position in (([TAIL], 0), ([FLIP, FLIP], 1), ([FLIP, HEAD, HEAD], 2), ((FLIP, GO), 1)):
            self.refuse(NotGiven, [position], ear.begin, row=row)
            self.refuse(NotGiven, [position], self.set_row, ear, row)
        self.assertEqual(state_of(ear), before)
        self.assertEqual(before[1], 1)


class TestTrial(Refusals):
    def changes(self):
        """Functions that change a listener of early, behind the row flip."""
        return [
            lambda ear: ear.hear(*TAIL), lambda ear: ear(*HEAD), lambda ear: ear.undo(), lambda ear: ear.begin([]),
            lambda ear: ear.begin([FLIP, HEAD]), lambda ear: setattr(ear, "row", ()), lambda ear: None,
            lambda ear: (ear.undo(), ear.hear(*FLIP), ear.hear(*HEAD)), lambda ear: (ear.begin(()), ear.hear(*FLIP)),
        ]

    def heard(self):
        ear = Listener(early())
        ear.hear(*FLIP)
        return ear

    def test_that_ends_well(self):
        for change in self.changes():
            ear = self.heard()
            before = state_of(ear)
            with ear.trial() as same:
                self.assertIs(same, ear)
                change(ear)
            self.assertEqual(state_of(ear), before)
            self.assertEqual(before[1], 1)

    def test_that_an_error_leaves(self):
        for change in self.changes():
            ear = self.heard()
            before = state_of(ear)
            error = Stop()
            with self.assertRaises(Stop) as caught:
                with ear.trial():
                    change(ear)
                    raise error
            self.assertIs(caught.exception, error)
            self.assertEqual(state_of(ear), before)

    def test_that_an_own_error_leaves(self):
        ear = self.heard()
        with self.assertRaises(NotGiven):
            with ear.trial():
                ear.hear(*HEAD)
                ear.hear(*HEAD)
        self.assertEqual((ear.row, state_of(ear)[1]), ([FLIP], 1))

    def test_within_it_the_listener_is_changed(self):
        ear = self.heard()
        with ear.trial():
            ear.hear(*TAIL)
            self.assertEqual((ear.row, ear.now(), ear.at(1)), ([FLIP, TAIL], [3], [2]))
            ear.undo()
            ear.undo()
            self.assertEqual(ear.row, [])
            self.refuse(NothingToUndo, [], ear.undo)
        self.assertEqual(ear.row, [FLIP])

    def test_trials_within_trials(self):
        for first in self.changes():
            for second in (lambda ear: ear.begin([FLIP, TAIL]), lambda ear: ear.begin([]), lambda ear: None):
                ear = self.heard()
                outer = state_of(ear)
                with ear.trial():
                    first(ear)
                    inner = state_of(ear)
                    with ear.trial():
                        second(ear)
                        with self.assertRaises(Stop):
                            with ear.trial():
                                ear.begin([FLIP])
                                raise Stop()
                    self.assertEqual(state_of(ear), inner)
                self.assertEqual(state_of(ear), outer)

    def test_as_it_was_when_it_was_entered(self):
        ear = self.heard()
        trial = ear.trial()
        ear.hear(*TAIL)
        for row in ([FLIP, TAIL], [FLIP, HEAD], []):
            ear.begin(row)
            with trial as same:
                self.assertIs(same, ear)
                self.assertEqual(ear.row, row)
                ear.begin([FLIP])
                ear.hear(*HEAD)
            self.assertEqual((ear.row, state_of(ear)[1]), (row, 0))

    def test_a_trial_that_is_not_entered_has_no_effect(self):
        ear = self.heard()
        ear.trial()
        ear.hear(*TAIL)
        self.assertEqual(ear.row, [FLIP, TAIL])

    def test_two_listeners_of_one_box(self):
        box = early()
        first, second = Listener(box), Listener(box)
        with first.trial():
            first.hear(*FLIP)
            second.hear(*FLIP)
        self.assertEqual((first.row, second.row), ([], [FLIP]))


class TestTried(unittest.TestCase):
    def test_what_the_function_returns(self):
        ear = Listener(early(), [FLIP])
        seen = []

        def action(listener):
            seen.append(listener)
            return listener("look", "tail")

        self.assertEqual(ear.tried(action), [3])
        self.assertIs(seen[0], ear)
        self.assertEqual(ear.row, [FLIP])
        result = object()
        self.assertIs(ear.tried(action=lambda listener: result), result)
        self.assertIs(ear.tried(lambda listener: None), None)
        self.assertIs(ear.tried(lambda listener: listener), ear)
        self.assertEqual(ear.tried(len), 1)

    def test_an_error_goes_on(self):
        ear = Listener(early())
        ear.hear(*FLIP)
        before = state_of(ear)

        def fail(listener):
            listener.begin([FLIP, HEAD])
            raise Stop()

        with self.assertRaises(Stop):
            ear.tried(fail)
        with self.assertRaises(NotGiven) as caught:
            ear.tried(lambda listener: listener.hear("go", "ok"))
        self.assertEqual(caught.exception.position, 1)
        self.assertEqual(state_of(ear), before)

    def test_within_one_another(self):
        ear = Listener(ring(3))

        def further(listener):
            listener.hear(*GO)
            return [len(listener)] + (listener.tried(further) if len(listener) < 5 else []) + [len(listener)]

        self.assertEqual(ear.tried(further), [1, 2, 3, 4, 5, 5, 4, 3, 2, 1])
        self.assertEqual(len(ear), 0)


class TestFacts(unittest.TestCase):
    """Against a plain reckoning over many small boxes."""

    def test_where_it_may_be_and_may_have_been(self):
        less = 0
        for box in plain.some_boxes(80, 401, 4, 8, plain.SIGNS):
            for row in plain.rows_up_to(box, 4)[::2]:
                ear = Listener(box)
                for sign in row:
                    ear.hear(*sign)
                self.assertEqual(ear.row, list(row))
                self.assertEqual(ear.now(), plain.behind(box, box.starts(), row))
                for number in range(len(row) + 1):
                    may = plain.behind(box, box.starts(), row[:number])
                    been = [state for state in may if plain.behind(box, [state], row[number:])]
                    self.assertEqual(ear.at(number), been)
                    less += been != may
                for call in ("a", "b", "c"):
                    wanted = [answer for answer in ("x", "y") if plain.gives(box, row + ((call, answer),))]
                    self.assertEqual(ear.answers(call), wanted)
                self.assertEqual(state_of(Listener(box, row))[0][0], state_of(ear)[0][0])
        self.assertTrue(less > 100, less)

    def test_values_that_only_equal_a_sign(self):
        ear = Listener(ring(2))
        for value in ((EqualToAll(), "ok"), ("go", EqualToAll())):
            with self.assertRaises(InvalidSign):
                ear.hear(*value)
        self.assertEqual(len(ear), 0)


if __name__ == "__main__":
    unittest.main()
