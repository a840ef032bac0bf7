"""Points [2], [33], [34]: forms, the boxes of sets, and boxes that are alike."""

import unittest

from aheadbehind.boxes import Box
from aheadbehind.errors import TooMany
from aheadbehind.forms import classes, form, sets_box
from aheadbehind.standing import are_alike
from tests import plain
from tests.refusals import Refusals
from tests.values import early, late, parts, ring, wide


class TestForm(unittest.TestCase):
    def test_boxes_that_are_alike_have_one_form(self):
        self.assertEqual(form(early()), late())
        self.assertEqual(form(late()), late())
        self.assertEqual(form(box=ring(7)), ring(1))
        self.assertEqual(form(late().numbered([2, 0, 1])), late())

    def test_a_box_without_steps(self):
        for box in (Box(1, [0]), Box(4, [2, 3]), Box(2, [1], [(0, "go", "ok", 1)])):
            self.assertEqual(form(box), Box(1, [0]))
            self.assertEqual(sets_box(box)[0], Box(1, [0]))

    def test_states_are_numbered_by_their_first_rows(self):
        box = Box(4, [3], [(3, "b", "x", 0), (3, "a", "y", 1), (3, "a", "x", 2), (0, "a", "a", 0), (1, "b", "b", 1)])
        steps = [(0, "a", "x", 1), (0, "a", "y", 2), (0, "b", "x", 3), (2, "b", "b", 2), (3, "a", "a", 3)]
        self.assertEqual(form(box), Box(4, [0], steps))
        deeper = Box(4, [0], [(0, "b", "b", 1), (0, "a", "a", 2), (2, "z", "z", 3), (1, "a", "a", 1), (3, "b", "b", 3)])
        self.assertEqual(form(deeper), deeper.numbered([0, 2, 1, 3]))

    def test_a_state_has_the_first_row_of_all_states_that_are_one_with_it(self):
        box = Box(4, [0], [(0, "a", "a", 1), (0, "b", "b", 2), (0, "c", "c", 3), (1, "a", "a", 1), (3, "a", "a", 3)])
        steps = [(0, "a", "a", 1), (0, "b", "b", 2), (0, "c", "c", 1), (1, "a", "a", 1)]
        self.assertEqual(form(box), Box(3, [0], steps))

    def test_it_is_sure_and_all_states_are_reachable(self):
        for box in plain.some_boxes(60, 17, 4, 10, plain.SIGNS):
            found = form(box)
            self.assertIs(type(found), Box)
            self.assertTrue(found.is_sure)
            self.assertEqual(found.starts(), [0])
            self.assertEqual(found.reachable(), list(range(found.states)))

    def test_the_form_may_have_more_than_six_states(self):
        steps = [(0, "a", "x", 0), (0, "b", "x", 0)] + [(0, "a", "x", 1)]
        steps += [(state, call, "x", state + 1) for state in range(1, 5) for call in "ab"]
        steps.append((5, "c", "x", 5))
        self.assertEqual((form(Box(6, [0], steps)).states, sets_box(Box(6, [0], steps))[0].states), (33, 33))
        self.assertEqual(len(sets_box(Box(6, [0], steps))[1]), 33)


class TestSetsBox(unittest.TestCase):
    def test_a_tuple_of_a_box_and_the_sets(self):
        found = sets_box(box=early())
        self.assertIs(type(found), tuple)
        box, sets = found
        steps = [(0, "flip", "ok", 1), (1, "look", "head", 2), (1, "look", "tail", 2)]
        self.assertEqual(box, Box(3, [0], steps))
        self.assertEqual((type(sets), sets), (list, [(0,), (1, 2), (3,)]))

    def test_sets_are_not_joined(self):
        box = Box(3, [0], [(0, "a", "a", 1), (0, "b", "b", 2)])
        wanted = Box(3, [0], [(0, "a", "a", 1), (0, "b", "b", 2)]), [(0,), (1,), (2,)]
        self.assertEqual(sets_box(box), wanted)
        self.assertEqual(form(box).states, 2)

    def test_several_starts(self):
        box = Box(3, [2, 0], [(0, "go", "ok", 1), (2, "go", "ok", 0), (1, "go", "ok", 1)])
        wanted = [(0, "go", "ok", 1), (1, "go", "ok", 2), (2, "go", "ok", 2)]
        self.assertEqual(sets_box(box), (Box(3, [0], wanted), [(0, 2), (0, 1), (1,)]))

    def test_what_is_told_is_new(self):
        box = early()
        sets_box(box)[1].clear()
        self.assertEqual(sets_box(box)[1], [(0,), (1, 2), (3,)])
        self.assertEqual(parts(box), parts(early()))


class TestClasses(Refusals):
    def test_positions_of_boxes_that_are_alike(self):
        head = late() - (1, "look", "tail", 2)
        boxes = [head, late(), Box(1, [0]), early(), Box(3, [1]), head, late()]
        self.assertEqual(classes(boxes), [[0, 5], [1, 3, 6], [2, 4]])
        self.assertEqual(classes(boxes=tuple(boxes)), [[0, 5], [1, 3, 6], [2, 4]])
        self.assertEqual(classes(boxes[::-1]), [[0, 3, 5], [1, 6], [2, 4]])

    def test_the_edges(self):
        self.assertEqual((classes([]), classes(()), classes([late()])), ([], [], [[0]]))
        self.assertEqual(classes([ring(number) for number in range(1, 8)]), [[0, 1, 2, 3, 4, 5, 6]])

    def test_boxes_with_as_many_states_and_other_steps(self):
        boxes = [Box(2, [0], [(0, call, "x", 1)]) for call in ("b", "a", "b")]
        self.assertEqual(classes(boxes), [[0, 2], [1]])

    def test_what_is_passed_and_told_stays(self):
        boxes = [late(), early()]
        found = classes(boxes)
        found[0].append(7)
        found.append([])
        self.assertEqual((classes(boxes), boxes), ([[0, 1]], [late(), early()]))

    def test_each_is_limited(self):
        for boxes in ([ring(8)], [late(), ring(8)], [ring(8), late()], [late(), early(), wide(8), late()]):
            self.refuse(TooMany, ["states", 7], classes, boxes)
        self.assertEqual(classes([ring(7), late()]), [[0], [1]])


class TestLimits(Refusals):
    def test_seven_states_and_eight(self):
        for deed in (form, sets_box):
            deed(ring(7))
            self.refuse(TooMany, ["states", 7], deed, ring(8))
            self.refuse(TooMany, ["states", 7], deed, box=wide(8))


class TestFacts(unittest.TestCase):
    """Against a plain reckoning: the rows that may follow a row, up to a length that tells all of them apart.

    Boxes of two states have at most four sets of them, and so have at most four unlike kinds of what may follow.
    """

    def followers(self, box, row):
        return tuple(more for more in plain.rows_up_to(box, 7) if more[:len(row)] == row and len(more) <= len(row) + 4)

    def test_the_form_is_the_least_and_numbered_by_first_rows(self):
        for box in plain.some_boxes(60, 19, 2, 6, plain.SIGNS[:2]):
            kinds = {}
            for row in plain.rows_up_to(box, 3):
                follow = tuple(more[len(row):] for more in self.followers(box, row))
                kinds.setdefault(follow, row)
            found = form(box)
            self.assertEqual(found.states, len(kinds))
            for number, row in enumerate(kinds.values()):
                self.assertEqual(plain.behind(found, [0], row), [number])
            self.assertEqual(plain.rows_up_to(found, 6), plain.rows_up_to(box, 6))

    def test_boxes_have_the_same_form_exactly_if_they_are_alike(self):
        boxes = plain.some_boxes(40, 23, 2, 5, plain.SIGNS[:2])
        given = [plain.rows_up_to(box, 7) for box in boxes]
        forms = [form(box) for box in boxes]
        same = 0
        for first in range(len(boxes)):
            for second in range(first):
                alike = given[first] == given[second]
                self.assertIs(forms[first] == forms[second], alike)
                self.assertIs(are_alike(boxes[first], boxes[second]), alike)
                same += alike
        self.assertTrue(same > 20)
        wanted = {}
        for position, rows in enumerate(given):
            wanted.setdefault(tuple(rows), []).append(position)
        self.assertEqual(classes(boxes), list(wanted.values()))

    def test_the_sets(self):
        for box in plain.some_boxes(60, 29, 3, 8, plain.SIGNS[:2]):
            sets = {}
            for row in plain.rows_up_to(box, 7):
                sets.setdefault(tuple(plain.behind(box, box.starts(), row)), row)
            sure, told = sets_box(box)
            self.assertEqual(told, list(sets))
            self.assertEqual((sure.states, sure.is_sure, sure.starts()), (len(sets), True, [0]))
            for number, row in enumerate(sets.values()):
                self.assertEqual(plain.behind(sure, [0], row), [number])
            self.assertEqual(plain.rows_up_to(sure, 5), plain.rows_up_to(box, 5))


if __name__ == "__main__":
    unittest.main()
