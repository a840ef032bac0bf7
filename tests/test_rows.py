"""Points [2], [21], [22]: what is behind and ahead by a row, walks and rows."""

import itertools
import unittest

from aheadbehind import rows as module
from aheadbehind.boxes import Box
from aheadbehind.errors import InvalidNumber, InvalidRow, InvalidSet, InvalidState, TooMany
from aheadbehind.rows import (
    ahead, ahead_of, behind, behind_of, gives, is_walk, next_signs, row_count, row_to, rows, walk, walk_count, walks,
)
from tests import plain
from tests.refusals import Refusals, first
from tests.values import (
    EqualToAll, early, late, many_steps, nested, parts, ring, told, unlike_values, wide, wrong_numbers, wrong_rows,
    wrong_somes, wrong_states,
)

FLIP = ("flip", "ok")
HEAD = ("look", "head")
TAIL = ("look", "tail")
OFF = ("off", "ok")


def free():
    """A box that gives all rows of two signs, each one by two walks or more."""
    return Box(2, [0, 1], [(a, "go", answer, b) for a in (0, 1) for answer in ("ok", "no") for b in (0, 1)])


def doubled():
    """A box with two starts, a state that is not reachable, and several walks with one row."""
    steps = [(0, "go", "ok", 0), (0, "go", "ok", 1), (1, "go", "ok", 1), (1, "go", "no", 0), (2, "go", "ok", 1)]
    return Box(3, [1, 0], steps)


class TestBehind(unittest.TestCase):
    def test_sign_by_sign_from_the_first_one(self):
        self.assertEqual(behind(early(), [FLIP]), [1, 2])
        self.assertEqual(behind(early(), [FLIP, HEAD]), [3])
        self.assertEqual(behind(late(), [FLIP, TAIL]), [2])
        self.assertEqual(behind(early(), [HEAD, FLIP]), [])

    def test_the_empty_row(self):
        self.assertEqual(behind(early(), []), [0])
        self.assertEqual(behind(doubled(), []), [0, 1])
        self.assertEqual(behind_of(doubled(), [2, 0], []), [0, 2])
        self.assertEqual(behind_of(doubled(), [], []), [])

    def test_a_row_that_is_not_given(self):
        for row in ([HEAD], [FLIP, FLIP], [FLIP, HEAD, TAIL], [OFF], [("flip", "no")], [("head", "look")]):
            self.assertEqual(behind(early(), row), [])

    def test_two_starts(self):
        self.assertEqual(behind(doubled(), [("go", "ok")]), [0, 1])
        self.assertEqual(behind(doubled(), [("go", "no")]), [0])

    def test_of_some_states_reachable_or_not(self):
        self.assertEqual(behind_of(early(), [2, 1], [TAIL]), [3])
        self.assertEqual(behind_of(early(), [1], [TAIL]), [])
        self.assertEqual(behind_of(doubled(), [2], [("go", "ok"), ("go", "no")]), [0])
        self.assertEqual(behind_of(doubled(), (2, 0), (("go", "ok"),)), [0, 1])
        self.assertEqual(behind_of(doubled(), [], [("go", "ok")]), [])

    def test_a_box_without_steps(self):
        self.assertEqual((behind(Box(2, [1]), []), behind(Box(2, [1]), [FLIP])), ([1], []))
        self.assertEqual((ahead(Box(2, [1]), []), ahead(Box(2, [1]), [FLIP])), ([0, 1], []))

    def test_names_of_the_parameters(self):
        self.assertEqual(behind(row=[FLIP], box=early()), [1, 2])
        self.assertEqual(behind_of(row=[TAIL], some=[1, 2], box=early()), [3])
        self.assertEqual(ahead(row=[TAIL], box=early()), [2])
        self.assertEqual(ahead_of(row=[FLIP], some=[1], box=early()), [0])


class TestAhead(unittest.TestCase):
    def test_sign_by_sign_from_the_last_one(self):
        self.assertEqual(ahead(early(), [TAIL]), [2])
        self.assertEqual(ahead(early(), [FLIP, TAIL]), [0])
        self.assertEqual(ahead(late(), [HEAD]), [1])
        self.assertEqual(ahead(early(), [TAIL, FLIP]), [])

    def test_the_empty_row(self):
        self.assertEqual(ahead(early(), []), [0, 1, 2, 3])
        self.assertEqual(ahead_of(early(), [3, 0], []), [0, 3])
        self.assertEqual(ahead_of(early(), (), ()), [])

    def test_states_that_are_not_reachable_count(self):
        self.assertEqual(ahead(doubled(), [("go", "ok")]), [0, 1, 2])
        self.assertEqual(ahead(doubled(), [("go", "ok"), ("go", "no")]), [0, 1, 2])

    def test_of_some_states(self):
        self.assertEqual(ahead_of(early(), [1], [FLIP]), [0])
        self.assertEqual(ahead_of(early(), [0, 3], [FLIP]), [])
        self.assertEqual(ahead_of(doubled(), [0], [("go", "no")]), [1])
        self.assertEqual(ahead_of(doubled(), [0], [("go", "ok")]), [0])
        self.assertEqual(ahead_of(doubled(), [2], [("go", "ok")]), [])


class TestGives(unittest.TestCase):
    def test_bools(self):
        for row in ([], [FLIP], [FLIP, TAIL]):
            self.assertIs(gives(early(), row), True)
            self.assertIs(gives(box=early(), row=tuple(row)), True)
        for row in ([TAIL], [FLIP, TAIL, FLIP]):
            self.assertIs(gives(early(), row), False)
            self.assertIs(gives(box=early(), row=tuple(row)), False)
        self.assertIs(gives(Box(1, [0]), []), True)

    def test_next_signs(self):
        self.assertEqual(next_signs(early(), []), [FLIP])
        self.assertEqual(next_signs(early(), [FLIP]), [HEAD, TAIL])
        self.assertEqual(next_signs(early(), [FLIP, HEAD]), [])
        self.assertEqual(next_signs(early(), [HEAD]), [])
        self.assertEqual(next_signs(row=(), box=doubled()), [("go", "no"), ("go", "ok")])
        self.assertEqual(next_signs(Box(1, [0]), []), [])


class TestWalks(unittest.TestCase):
    def test_all_in_sorted_sequence(self):
        box = doubled()
        stay, over, loop, back = (0, "go", "ok", 0), (0, "go", "ok", 1), (1, "go", "ok", 1), (1, "go", "no", 0)
        two = [("go", "ok"), ("go", "ok")]
        self.assertEqual(list(walks(box, two)), [[stay, stay], [stay, over], [over, loop], [loop, loop]])
        self.assertEqual(list(walks(box, [("go", "ok"), ("go", "no")])), [[over, back], [loop, back]])
        self.assertEqual([type(found) for found in walks(box, two)], [list] * 4)

    def test_the_empty_row_and_rows_that_are_not_given(self):
        self.assertEqual((list(walks(doubled(), [])), walk(doubled(), []), walk_count(doubled(), [])), ([[]], [], 1))
        for row in ([OFF], [("go", "ok"), OFF], [OFF, ("go", "ok")]):
            found = (list(walks(doubled(), row)), walk(doubled(), row), walk_count(doubled(), row))
            self.assertEqual(found, ([], None, 0))

    def test_counts(self):
        box = doubled()
        for row in ([("go", "ok")], [("go", "ok")] * 5, [("go", "no"), ("go", "ok")], [("go", "ok"), ("go", "no")] * 3):
            found = list(walks(box, row))
            self.assertEqual(walk_count(box, row), len(found))
            self.assertEqual(found, sorted(found))
            self.assertTrue(all(is_walk(box, row, value) for value in found))
            self.assertIn(walk(box, row), found)
        full = Box(6, [0, 1, 2], [(state, "go", "ok", to) for state in range(4) for to in range(6)])
        self.assertEqual(walk_count(full, [("go", "ok")] * 2), 3 * 4 * 6)
        self.assertEqual(walk_count(ring(3) + (0, "go", "ok", 0), [("go", "ok")] * 4), 6)
        self.assertEqual(walk_count(free(), [("go", "ok")] * 99), 2 ** 100)

    def test_each_walk_is_made_when_it_is_asked_for(self):
        full = Box(4, [0, 1, 2, 3], [(state, "go", "ok", to) for state in range(4) for to in range(4)])
        found = list(itertools.islice(walks(full, [("go", "ok")] * 200), 3))
        self.assertEqual([walk[-1] for walk in found], [(0, "go", "ok", 0), (0, "go", "ok", 1), (0, "go", "ok", 2)])
        self.assertTrue(all(walk[:-1] == [(0, "go", "ok", 0)] * 199 for walk in found))

    def test_no_long_way_is_gone_in_vain(self):
        steps = [(a, "go", "ok", b) for a in range(4) for b in range(4)] + [(4, "go", "ok", 4), (4, "end", "ok", 4)]
        row = [("go", "ok")] * 60 + [("end", "ok")]
        box = Box(5, [0, 4], steps)
        self.assertEqual(list(walks(box, row)), [[(4, "go", "ok", 4)] * 60 + [(4, "end", "ok", 4)]])
        self.assertEqual((walk(box, row), walk_count(box, row)), (next(walks(box, row)), 1))

    def test_two_generators_at_once_and_told_walks_that_are_changed(self):
        box, row = doubled(), [("go", "ok")] * 3
        wanted = list(walks(box, row))
        first_one, second_one, found = walks(box, row), walks(row=row, box=box), []
        for _ in wanted:
            one, two = next(first_one), next(second_one)
            self.assertEqual(one, two)
            found.append(list(one))
            one.clear()
            two[0] = None
        self.assertEqual(found, wanted)
        self.assertEqual((next(first_one, 1), next(second_one, 2)), (1, 2))
        self.assertEqual(list(walks(box, row)), wanted)

    def test_the_row_may_be_changed_behind_the_first_walk(self):
        row = [("go", "ok")] * 3
        wanted = list(walks(doubled(), row))
        generator = walks(doubled(), row)
        found = [next(generator)]
        row.clear()
        self.assertEqual(found + list(generator), wanted)

    def test_is_a_generator(self):
        for generator in (walks(doubled(), []), rows(doubled())):
            self.assertIs(iter(generator), generator)


class TestIsWalk(unittest.TestCase):
    def test_walks_as_lists_and_tuples(self):
        steps = [(0, "flip", "ok", 2), (2, "look", "tail", 3)]
        self.assertIs(is_walk(early(), [FLIP, TAIL], steps), True)
        self.assertIs(is_walk(value=tuple(steps), row=(FLIP, TAIL), box=early()), True)
        self.assertIs(is_walk(early(), [], []), True)
        self.assertIs(is_walk(early(), [], ()), True)

    def test_what_is_none(self):
        flip, head, tail = (0, "flip", "ok", 1), (1, "look", "head", 3), (2, "look", "tail", 3)
        row = [FLIP, HEAD]
        wrong = [
            [flip], [flip, head, head], [head, flip], [flip, tail], [(0, "flip", "ok", 2), head], [flip, flip],
            [list(flip), head], [flip, None], [flip, (True, "look", "head", 3)], [(False, "flip", "ok", 1), head],
            [(0, "flip", "ok", 3), head], iter([flip, head]), {flip: 1, head: 2}, [EqualToAll(), head],
            [flip, EqualToAll()], [(0, "flip", "ok", 1), (1, "look", "head", 3, 3)],
        ]
        for value in wrong:
            self.assertIs(is_walk(early(), row, value), False, told(value))
        self.assertIs(is_walk(early(), row, [flip, head]), True)
        self.assertIs(is_walk(early(), [HEAD], [head]), False)
        self.assertIs(is_walk(early(), [TAIL], [head]), False)

    def test_values_of_many_kinds(self):
        for value in unlike_values():
            self.assertIs(is_walk(early(), [], value), isinstance(value, (list, tuple)) and len(value) == 0)
            wanted = type(value) in (list, tuple) and list(value) == [(0, "go", "ok", 0)]
            self.assertIs(is_walk(Box(1, [0], [(0, "go", "ok", 0)]), [("go", "ok")], value), wanted, told(value))
            self.assertIs(is_walk(early(), [FLIP], value), False)
            self.assertIs(is_walk(early(), [FLIP], [value]), False)
        self.assertIs(is_walk(early(), [FLIP], nested(8)), False)


class TestRowTo(unittest.TestCase):
    def test_the_shortest_row_of_these_the_least(self):
        self.assertEqual(row_to(early(), 3), [FLIP, HEAD])
        self.assertEqual(row_to(early(), 0), [])
        self.assertEqual(row_to(state=2, box=early()), [FLIP])
        steps = [(0, "b", "x", 2), (0, "a", "x", 1), (1, "z", "z", 3), (2, "a", "a", 3), (3, "a", "a", 4)]
        box = Box(6, [0], steps + [(0, "z", "z", 4)])
        self.assertEqual([row_to(box, state) for state in (1, 2)], [[("a", "x")], [("b", "x")]])
        self.assertEqual(row_to(box, 3), [("a", "x"), ("z", "z")])
        self.assertEqual(row_to(box, 4), [("z", "z")])

    def test_the_least_row_may_lead_through_a_greater_state(self):
        box = Box(4, [0], [(0, "a", "x", 2), (0, "b", "x", 1), (1, "a", "a", 3), (2, "b", "b", 3)])
        self.assertEqual(row_to(box, 3), [("a", "x"), ("b", "b")])
        box = Box(4, [1, 0], [(1, "a", "a", 2), (0, "b", "x", 2), (2, "c", "c", 3)])
        self.assertEqual(row_to(box, 3), [("a", "a"), ("c", "c")])

    def test_states_that_are_not_reachable(self):
        self.assertEqual(row_to(Box(3, [0], [(0, "go", "ok", 1), (2, "go", "ok", 1)]), 2), None)
        self.assertEqual(row_to(Box(2, [1]), 0), None)

    def test_starts(self):
        self.assertEqual([row_to(doubled(), 0), row_to(doubled(), 1)], [[], []])

    def test_any_number_of_states(self):
        self.assertEqual(row_to(ring(60), 59), [("go", "ok")] * 59)


class TestRows(unittest.TestCase):
    def test_shorter_ones_first_then_sorted(self):
        self.assertEqual(list(rows(early())), [[], [FLIP], [FLIP, HEAD], [FLIP, TAIL]])
        self.assertEqual(list(rows(box=Box(2, [0, 1]))), [[]])

    def test_each_row_once(self):
        found = list(itertools.islice(rows(free()), 63))
        signs = [("go", "no"), ("go", "ok")]
        self.assertEqual(found, [list(row) for size in range(6) for row in itertools.product(signs, repeat=size)])

    def test_without_an_end(self):
        found = list(itertools.islice(rows(ring(2)), 300))
        self.assertEqual(found, [[("go", "ok")] * size for size in range(300)])

    def test_rows_that_end(self):
        box = Box(4, [0, 3], [(0, "b", "x", 1), (0, "a", "x", 1), (1, "a", "x", 2), (3, "a", "z", 2), (3, "a", "x", 2)])
        found = [[], [("a", "x")], [("a", "z")], [("b", "x")], [("a", "x"), ("a", "x")], [("b", "x"), ("a", "x")]]
        self.assertEqual(list(rows(box)), found)

    def test_two_generators_at_once_and_told_rows_that_are_changed(self):
        first_one, second_one, found = rows(doubled()), rows(doubled()), []
        for _ in range(40):
            one = next(first_one)
            found.append(list(one))
            one.append("changed")
            if len(found) % 2:
                two = next(second_one)
                self.assertEqual(two, found[len(found) // 2])
                two.clear()
        self.assertEqual(found, list(itertools.islice(rows(doubled()), 40)))

    def test_rows_of_a_length_are_made_when_the_first_of_them_is_asked_for(self):
        many = wide(1, [0], [(0, call + other, "ok", 0) for call in "abcdefghij" for other in "abcdefghij"])
        made = []
        kept = module.longer_rows
        module.longer_rows = lambda *given: made.append(len(given[0])) or kept(*given)
        try:
            generator = rows(many)
            self.assertEqual((next(generator), made), ([], []))
            self.assertEqual((next(generator), made), ([("aa", "ok")], [1]))
            for _ in range(99):
                next(generator)
            self.assertEqual(made, [1])
            self.assertEqual((next(generator), made), ([("aa", "ok")] * 2, [1, 100]))
        finally:
            module.longer_rows = kept


class TestRowCount(Refusals):
    def test_counts_rows_not_walks(self):
        self.assertEqual([row_count(late(), size) for size in range(5)], [1, 1, 2, 0, 0])
        self.assertEqual([row_count(early(), size) for size in range(5)], [1, 1, 2, 0, 0])
        self.assertEqual([row_count(doubled(), size) for size in (0, 1, 2, 3, 4)], [1, 2, 3, 5, 8])
        self.assertEqual([row_count(free(), size) for size in (0, 1, 10, 200)], [1, 2, 2 ** 10, 2 ** 200])
        self.assertEqual(row_count(size=200, box=ring(7)), 1)
        self.assertEqual((row_count(Box(1, [0]), 0), row_count(Box(1, [0]), 1), row_count(Box(1, [0]), 200)), (1, 0, 0))

    def test_size_0_and_200_and_201(self):
        self.assertEqual((row_count(ring(2), 0), row_count(ring(2), 200)), (1, 1))
        self.refuse(InvalidNumber, [201], row_count, ring(2), 201)
        for value in wrong_numbers(0, 200):
            self.refuse(InvalidNumber, [value], row_count, ring(2), value)
            self.refuse(InvalidNumber, [value], row_count, size=value, box=ring(8))

    def test_seven_states_and_eight(self):
        self.assertEqual(row_count(ring(7), 9), 1)
        self.refuse(TooMany, ["states", 7], row_count, ring(8), 9)
        self.refuse(TooMany, ["states", 7], row_count, ring(8), 0)


class TestRefusals(Refusals):
    def test_rows(self):
        steps = [(0, "flip", "ok", 0)]
        deeds = [
            behind, lambda box, row: behind_of(box, [0], row), ahead, lambda box, row: ahead_of(box, [0], row), gives,
            next_signs, walk, lambda box, row: is_walk(box, row, steps), walk_count,
            lambda box, row: first(walks(box, row)),
        ]
        for row, position in wrong_rows():
            for deed in deeds:
                self.refuse(InvalidRow, [position], deed, late(), row)
        self.refuse(InvalidRow, [3], behind, row=[("flip", "ok")] * 3 + [0, ("flip", "ok")], box=late())

    def test_some_states(self):
        for value in wrong_somes(4):
            self.refuse(InvalidSet, [value], behind_of, early(), value, [])
            self.refuse(InvalidSet, [value], ahead_of, early(), value, [])
        self.refuse(InvalidSet, [[4]], behind_of, early(), [4], None)
        self.refuse(InvalidSet, [[0, False]], ahead_of, row=None, some=[0, False], box=early())
        self.refuse(InvalidRow, [None], behind_of, early(), [3], None)
        self.refuse(InvalidRow, [0], ahead_of, early(), [], [0])

    def test_states(self):
        for value in wrong_states(4):
            self.refuse(InvalidState, [value], row_to, early(), value)

    def test_an_invalid_row_is_found_at_the_latest_with_the_first_walk(self):
        with self.assertRaises(InvalidRow):
            next(walks(late(), None))


class TestNothingChanges(unittest.TestCase):
    def test_what_is_passed_and_told(self):
        box, row, some = doubled(), [("go", "ok"), ("go", "ok")], [2, 0]
        before = parts(box)
        deeds = [
            lambda: behind(box, row), lambda: behind_of(box, some, row), lambda: behind_of(box, some, []),
            lambda: ahead(box, row), lambda: ahead_of(box, some, row), lambda: ahead_of(box, some, []),
            lambda: next_signs(box, row), lambda: walk(box, row), lambda: row_to(box, 1), lambda: behind(box, []),
            lambda: ahead(box, []),
        ]
        for number, deed in enumerate(deeds):
            with self.subTest(deed=number):
                found = deed()
                self.assertIs(type(found), list)
                wanted = list(found)
                found.append("changed")
                self.assertEqual(deed(), wanted)
        self.assertEqual((parts(box), row, some), (before, [("go", "ok"), ("go", "ok")], [2, 0]))

    def test_any_number_of_states_where_a_box_is_not_limited(self):
        box = ring(30)
        row = [("go", "ok")] * 29
        self.assertEqual((behind(box, row), behind_of(box, [29, 8], row)), ([29], [7, 28]))
        self.assertEqual((ahead(box, row), ahead_of(box, [29], row)), (list(range(30)), [0]))
        self.assertEqual((gives(box, row), next_signs(box, row)), (True, [("go", "ok")]))
        self.assertEqual((walk_count(box, row), len(walk(box, row)), len(list(walks(box, row)))), (1, 29, 1))
        self.assertEqual((is_walk(box, row, walk(box, row)), len(list(itertools.islice(rows(box), 50)))), (True, 50))

    def test_long_rows(self):
        row = [("go", "ok")] * 1000
        box = Box(6, [0], many_steps(24))
        self.assertEqual((gives(box, row), len(walk(box, row)), is_walk(box, row, walk(box, row))), (True, 1000, True))
        self.assertTrue(walk_count(box, row) > 4 ** 999)


class TestFacts(unittest.TestCase):
    """Against a plain reckoning over many small boxes."""

    def test_behind_and_ahead_by_all_short_rows(self):
        for box in plain.some_boxes(40, 1, 3, 8, plain.SIGNS):
            for size in range(4):
                for row in itertools.product(plain.SIGNS, repeat=size):
                    found = behind(box, row)
                    self.assertEqual(found, plain.behind(box, box.starts(), row))
                    self.assertEqual(ahead(box, row), plain.ahead(box, range(box.states), row))
                    given = plain.gives(box, row)
                    self.assertEqual(gives(box, row), given)
                    self.assertEqual(given, len(found) > 0)
                    self.assertEqual(given, any(start in ahead(box, row) for start in box.starts()))
                    signs = [sign for sign in plain.SIGNS if plain.gives(box, row + (sign,))]
                    self.assertEqual(next_signs(box, row), sorted(signs))

    def test_behind_and_ahead_of_some_states(self):
        for box in plain.some_boxes(25, 2, 3, 8, plain.SIGNS):
            for some in plain.parts_of(list(range(box.states))):
                for row in itertools.product(plain.SIGNS, repeat=2):
                    self.assertEqual(behind_of(box, some, row), plain.behind(box, some, row))
                    self.assertEqual(ahead_of(box, some, row), plain.ahead(box, some, row))

    def test_walks(self):
        for box in plain.some_boxes(40, 3, 3, 9, plain.SIGNS[:2]):
            for size in range(5):
                for row in itertools.product(plain.SIGNS[:2], repeat=size):
                    wanted = sorted(list(found) for found in plain.walked(box, box.starts(), row))
                    self.assertEqual(list(walks(box, row)), wanted)
                    self.assertEqual(walk_count(box, row), len(wanted))
                    self.assertTrue(walk(box, row) in wanted if wanted else walk(box, row) is None)

    def test_which_lists_of_steps_are_walks(self):
        for box in plain.some_boxes(20, 4, 2, 6, plain.SIGNS[:2]):
            for value in itertools.product(box.steps(), repeat=2):
                for row in itertools.product(plain.SIGNS[:2], repeat=2):
                    self.assertEqual(is_walk(box, row, value), value in plain.walked(box, box.starts(), row))

    def test_rows(self):
        for box in plain.some_boxes(60, 5, 3, 7, plain.SIGNS):
            wanted = [list(row) for row in plain.rows_up_to(box, 4)]
            self.assertEqual(list(itertools.islice(rows(box), len(wanted))), wanted)
            for size in range(5):
                self.assertEqual(row_count(box, size), len(plain.rows_of(box, size)))

    def test_first_rows(self):
        for box in plain.some_boxes(60, 6, 4, 7, plain.SIGNS):
            given = plain.rows_up_to(box, box.states - 1)
            for state in range(box.states):
                firsts = [list(row) for row in given if state in plain.behind(box, box.starts(), row)]
                self.assertEqual(row_to(box, state), firsts[0] if firsts else None)


if __name__ == "__main__":
    unittest.main()
