"""Point [2]: what an INTEGER, a COUNT, a NAME, a sign and a row are."""

import unittest

from aheadbehind.basics import is_count, is_integer, is_name, is_row, is_sign
from tests.values import MOST_DIGITS, EqualToAll, told, unlike_values

ALL = (is_integer, is_count, is_name, is_sign, is_row)


class TestOfAny(unittest.TestCase):
    def refuse(self, question, values):
        for value in values:
            with self.subTest(question=question.__name__, value=told(value)):
                self.assertIs(question(value), False)

    def accept(self, question, values):
        for value in values:
            with self.subTest(question=question.__name__, value=told(value)):
                self.assertIs(question(value), True)
                self.assertIs(question(value=value), True)

    def test_answers_are_bools_for_any_value(self):
        for question in ALL:
            for value in unlike_values():
                with self.subTest(question=question.__name__, value=told(value)):
                    self.assertIs(type(question(value)), bool)

    def test_each_kind_is_no_other_kind(self):
        for value in unlike_values():
            kinds = [is_integer(value), is_name(value), is_sign(value), is_row(value)]
            self.assertLessEqual(kinds.count(True), 1, told(value))

    def test_integers(self):
        self.accept(is_integer, [0, 1, -1, 6, MOST_DIGITS, -MOST_DIGITS])
        self.refuse(is_integer, [True, False, None, "1", b"1", [1], (1,), {1: 1}, {1}, 1j, int, EqualToAll()])

    def test_counts(self):
        self.accept(is_count, [0, 1, 200, MOST_DIGITS])
        self.refuse(is_count, [-1, -MOST_DIGITS, True, False, None, "0", b"", [0], (0,), {}, EqualToAll()])

    def test_names(self):
        self.accept(is_name, ["a", "z", "go", "abcdefgh", "stuvwxyz", "zzzzzzzz"])
        self.refuse(is_name, ["", "abcdefghi", "A", "Go", "gO", "g o", " go", "go ", "go\n", "\n", "g-o", "g_o", "go1"])
        self.refuse(is_name, ["0", "`", "{", "@", "[", "a" * 10000, b"go", ["g", "o"], ("go",), None, 0, True])

    def test_each_letter_and_no_other_character_makes_a_name(self):
        letters = "abcdefghijklmnopqrstuvwxyz"
        for code in range(32, 127):
            for text in (chr(code), "a" + chr(code), chr(code) + "a"):
                with self.subTest(text=text):
                    self.assertIs(is_name(text), chr(code) in letters)

    def test_signs(self):
        self.accept(is_sign, [("go", "ok"), ("a", "a"), ("abcdefgh", "z")])
        self.refuse(is_sign, [["go", "ok"], ("go",), ("go", "ok", "ok"), (), "go", ("go", "OK"), ("Go", "ok")])
        self.refuse(is_sign, [("go", ""), ("", "ok"), ("go", "abcdefghi"), ("go", 0), (0, "ok"), (True, "ok")])
        self.refuse(is_sign, [("go", ["ok"]), (["go"], "ok"), ("go", b"ok"), ("go", None), {"go": "ok"}, ("go", {})])
        self.refuse(is_sign, [("go", EqualToAll()), (EqualToAll(), "ok"), {"go", "ok"}, [("go", "ok")], "go ok"])

    def test_rows(self):
        sign = ("go", "ok")
        self.accept(is_row, [[], [sign], [sign, sign], [sign, ("look", "head")], [sign] * 1000])
        self.accept(is_row, [(), (sign,), (sign, sign), (sign,) * 1000])
        self.refuse(is_row, [sign, "go", "", b"", {}, {sign: sign}, {sign}, None, 0, True, range(0), iter([])])
        self.refuse(is_row, [[sign, None], [None, sign], [["go", "ok"]], [sign, ["go", "ok"]], ["go", "ok"], [sign, ()]])
        self.refuse(is_row, [[sign] * 999 + ["go"], [[sign]], ((sign,),), [("go", True)], [EqualToAll()]])

    def test_what_is_asked_about_stays_as_it_was(self):
        row = [("go", "ok"), ("look", "head")]
        for question in ALL:
            question(row)
        self.assertEqual(row, [("go", "ok"), ("look", "head")])
