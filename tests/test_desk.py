"""Point [93]: a desk, which keeps boxes by names and follows commands."""

import unittest

from aheadbehind.basics import is_name
from aheadbehind.boxes import Box
from aheadbehind.desk import Desk
from aheadbehind.errors import (
    CommandFailed, InvalidBox, InvalidCommand, InvalidName, InvalidState, InvalidStep, NothingToUndo, TakenName, TooMany,
    UnknownName, UnknownStep,
)
from aheadbehind.muffled import Muffled
from tests.refusals import Refusals
from tests.values import EqualToAll, early, late, many_steps, parts, ring, told, unlike_values, wide

MAKE_LATE = ["new late 3", "add late 0 flip ok 1", "add late 1 look head 2", "add late 1 look tail 2"]
MAKE_EARLY = ["new early 4", "add early 0 flip ok 1", "add early 0 flip ok 2", "add early 1 look head 3",
              "add early 2 look tail 3"]


def full():
    """A desk with the boxes late and early, made by commands."""
    desk = Desk()
    desk.do_all(*MAKE_LATE, *MAKE_EARLY)
    return desk


def all_of(desk):
    """All that a desk tells."""
    return desk.names(), len(desk), desk.log(), [parts(desk[name]) for name in desk.names()]


def put(desk, name, box):
    """Give the name the box."""
    desk[name] = box


class TestBoxes(Refusals):
    def test_an_empty_desk(self):
        desk = Desk()
        self.assertEqual((desk.names(), len(desk), desk.log(), "late" in desk), ([], 0, [], False))
        self.refuse(UnknownName, ["late"], lambda name: desk[name], "late")
        self.refuse(NothingToUndo, [], desk.do, "undo")

    def test_boxes_by_their_names(self):
        desk = full()
        self.assertEqual((desk["late"], desk["early"]), (late(), early()))
        self.assertIs(type(desk["late"]), Box)
        self.assertEqual((desk.names(), len(desk)), (["early", "late"], 2))

    def test_two_desks_are_apart(self):
        first, second = full(), Desk()
        first.do("drop late")
        second.do("new late 1")
        self.assertEqual((first.names(), second.names()), (["early"], ["late"]))

    def test_in(self):
        desk = full()
        self.assertIs("late" in desk, True)
        for value in unlike_values() + ["Late", "lat", "late ", ("late",), ["late"], b"late", late()]:
            self.assertIs(value in desk, False, told(value))

    def test_names_that_are_unknown(self):
        desk = full()
        for value in unlike_values() + ["Late", "lat", "late ", ("late",), ["late"], b"late", late()]:
            self.refuse(UnknownName, [value], lambda name: desk[name], value)

    def test_it_is_not_iterated_over(self):
        with self.assertRaises(TypeError):
            iter(full())

    def test_what_is_told_is_new(self):
        desk = full()
        before = all_of(desk)
        desk.names().clear()
        desk.log().append("undo")
        desk.do_all("undo", "add early 2 look tail 3").clear()
        self.assertEqual(all_of(desk), before)


class TestPut(Refusals):
    def test_a_new_name_and_one_that_is_there(self):
        desk = Desk()
        box = early()
        desk["a"] = box
        self.assertIs(desk["a"], box)
        desk["a"] = late()
        desk["eightlet"] = Box(6, [5], many_steps(24))
        self.assertEqual((desk.names(), desk["a"], len(desk["eightlet"])), (["a", "eightlet"], late(), 24))

    def test_nothing_can_be_taken_back_then_and_the_log_is_empty(self):
        for name in ("late", "more"):
            desk = full()
            desk[name] = Box(1, [0])
            self.assertEqual(desk.log(), [])
            self.refuse(NothingToUndo, [], desk.do, "undo")
            self.assertEqual((desk[name], desk["early"]), (Box(1, [0]), early()))
            desk.do("add early 3 go ok 0")
            self.assertEqual(desk.log(), ["add early 3 go ok 0"])
            self.assertEqual(desk.do("undo"), "add early 3 go ok 0")
            self.refuse(NothingToUndo, [], desk, "undo")
            self.assertEqual((desk["early"], desk[name]), (early(), Box(1, [0])))

    def test_names_that_are_none(self):
        desk = full()
        before = all_of(desk)
        for value in unlike_values() + ["Late", "late ", "ninewords", "", b"late", ("late",), ["late"]]:
            if not is_name(value):
                self.refuse(InvalidName, [value], put, desk, value, late())
                self.refuse(InvalidName, [value], put, desk, value, None)
        self.assertEqual(all_of(desk), before)

    def test_boxes_that_are_none(self):
        desk = full()
        before = all_of(desk)
        boxes = [Muffled(1, [0], []), ring(7), wide(7), wide(6, [0], many_steps(25)), wide(1000, [0]), Box]
        for value in unlike_values() + boxes:
            if not isinstance(value, Box) or value.states > 6 or len(value) > 24:
                self.refuse(InvalidBox, [value], put, desk, "late", value)
                self.refuse(InvalidBox, [value], put, desk, "more", value)
        self.assertEqual(all_of(desk), before)

    def test_boxes_that_the_package_made(self):
        desk = Desk()
        for box in (wide(6, [0, 5], many_steps(24)), ring(6), late().turned(), Box(2, [1])):
            desk["box"] = box
            self.assertEqual(desk["box"], box)

    def test_starts_of_a_box_that_is_put_stay(self):
        desk = Desk()
        desk["box"] = Box(3, [2, 1])
        self.assertEqual(desk.do("add box 2 go ok 1"), "1")
        self.assertEqual(desk["box"], Box(3, [1, 2], [(2, "go", "ok", 1)]))
        self.assertEqual(desk.do("cut box 2 go ok 1"), "0")
        self.assertEqual(desk["box"].starts(), [1, 2])


class TestCommands(Refusals):
    def test_new(self):
        for states in range(1, 7):
            desk = Desk()
            self.assertEqual(desk.do(f"new box {states}"), "ok")
            self.assertEqual(desk["box"], Box(states, [0]))
            self.assertEqual(desk.log(), [f"new box {states}"])

    def test_add_and_cut(self):
        desk = Desk()
        desk.do("new box 2")
        self.assertEqual(desk.do("add box 0 go ok 1"), "1")
        self.assertEqual(desk.do(command="add box 1 go ok 1"), "2")
        self.assertEqual(desk["box"], Box(2, [0], [(0, "go", "ok", 1), (1, "go", "ok", 1)]))
        self.assertEqual(desk.do("cut box 0 go ok 1"), "1")
        self.assertEqual(desk["box"], Box(2, [0], [(1, "go", "ok", 1)]))
        self.assertEqual(desk.do("cut box 1 go ok 1"), "0")
        self.assertEqual(desk["box"], Box(2, [0]))

    def test_drop(self):
        desk = full()
        self.assertEqual(desk.do("drop late"), "ok")
        self.assertEqual((desk.names(), "late" in desk), (["early"], False))
        self.assertEqual(desk.do("new late 1"), "ok")
        self.assertEqual(desk["late"], Box(1, [0]))

    def test_a_box_that_was_told_does_not_change(self):
        desk = full()
        box = desk["late"]
        desk.do("cut late 0 flip ok 1")
        desk.do("drop late")
        self.assertEqual(parts(box), parts(late()))

    def test_stands(self):
        desk = full()
        for command, answer in (("stands late early", "yes"), ("stands early late", "yes"), ("stands late late", "yes")):
            self.assertEqual(desk.do(command), answer)
        desk.do("cut early 2 look tail 3")
        self.assertEqual(desk.do("stands late early"), "no flip ok look tail")
        self.assertEqual(desk.do("stands early late"), "yes")
        desk.do("new none 1")
        self.assertEqual(desk.do("stands late none"), "no flip ok")

    def test_girth(self):
        desk = full()
        self.assertEqual(desk.do("girth remembering late early"), "2")
        self.assertEqual(desk.do("girth guessing late early"), "1")
        self.assertEqual(desk.do("girth remembering early late"), "1")
        desk.do("cut early 2 look tail 3")
        for kind in ("remembering", "guessing"):
            self.assertEqual(desk.do(f"girth {kind} late early"), "-")
            self.assertEqual(desk.do(f"girth {kind} early late"), "1")

    def test_alike(self):
        desk = full()
        self.assertEqual((desk.do("alike late early"), desk.do("alike late late")), ("yes", "yes"))
        desk.do("cut early 2 look tail 3")
        self.assertEqual((desk.do("alike late early"), desk.do("alike early late")), ("no", "no"))

    def test_gives(self):
        desk = full()
        for row, answer in (("", "yes"), (" flip ok", "yes"), (" flip ok look tail", "yes"), (" look tail", "no"),
                            (" flip ok look ok", "no"), (" flip ok look head flip ok", "no"), (" go ok", "no"),
                            (" ok flip", "no"), (" flip ok" * 400, "no")):
            self.assertEqual(desk.do("gives early" + row), answer)

    def test_words_of_commands_as_names(self):
        desk = Desk()
        for name in ("new", "undo", "drop", "gives", "ok", "girth"):
            self.assertEqual(desk.do(f"new {name} 2"), "ok")
            self.assertEqual(desk.do(f"add {name} 0 new undo 1"), "1")
        self.assertEqual(desk.do("alike undo new"), "yes")
        self.assertEqual(desk.do("gives gives new undo"), "yes")

    def test_called(self):
        desk = Desk()
        self.assertEqual(desk("new box 2"), "ok")
        self.assertEqual(desk(command="add box 0 go ok 0"), "1")
        self.assertEqual((desk("gives box go ok go ok"), desk("undo"), desk.log()), ("yes", "add box 0 go ok 0", ["new box 2"]))
        self.refuse(InvalidCommand, ["undo it"], desk, "undo it")
        self.refuse(UnknownName, ["a"], desk, "drop a")

    def test_answers_are_strings(self):
        desk = full()
        for command in ("new box 1", "add box 0 go ok 0", "cut box 0 go ok 0", "undo", "drop box", "stands late early",
                        "girth guessing late early", "alike late early", "gives late"):
            self.assertIs(type(desk.do(command)), str)


class TestUndo(Refusals):
    def test_of_each_command(self):
        for command in ("new more 6", "add late 2 go ok 0", "cut early 0 flip ok 1", "drop late"):
            desk = full()
            before = all_of(desk)
            desk.do(command)
            self.assertNotEqual(all_of(desk), before)
            self.assertEqual(desk.log(), MAKE_LATE + MAKE_EARLY + [command])
            self.assertEqual(desk.do("undo"), command)
            self.assertEqual(all_of(desk), before)

    def test_one_behind_the_other(self):
        desk = Desk()
        lines = MAKE_LATE + ["cut late 0 flip ok 1", "drop late", "new late 2", "add late 1 go ok 1", "drop late"]
        seen = []
        for line in lines:
            seen.append(all_of(desk))
            desk.do(line)
        self.assertEqual(desk.log(), lines)
        for line in lines[::-1]:
            self.assertEqual(desk.do("undo"), line)
            self.assertEqual(all_of(desk), seen.pop())
        self.refuse(NothingToUndo, [], desk.do, "undo")
        self.assertEqual(all_of(desk), all_of(Desk()))

    def test_only_what_was_done_and_not_taken_back(self):
        desk = full()
        self.refuse(TakenName, ["late"], desk.do, "new late 1")
        for question in ("stands late early", "girth guessing late early", "alike late early", "gives late flip ok"):
            desk.do(question)
        self.assertEqual(desk.log(), MAKE_LATE + MAKE_EARLY)
        self.assertEqual(desk.do("undo"), MAKE_EARLY[-1])
        self.assertEqual(desk.do("undo"), MAKE_EARLY[-2])
        desk.do("add early 3 go ok 3")
        self.assertEqual((desk.do("undo"), desk.do("undo")), ("add early 3 go ok 3", MAKE_EARLY[-3]))
        self.assertEqual(desk.log(), MAKE_LATE + MAKE_EARLY[:2])


class TestInvalidCommands(Refusals):
    def check(self, *commands):
        desk = full()
        before = all_of(desk)
        for command in commands:
            self.refuse(InvalidCommand, [command], desk.do, command)
            self.refuse(InvalidCommand, [command], desk, command=command)
        self.assertEqual(all_of(desk), before)

    def test_values_of_many_kinds(self):
        self.check(*unlike_values(), b"undo", ["undo"], ("undo",), {"undo": 1}, None, EqualToAll())

    def test_words(self):
        self.check("", " ", "Undo", "UNDO", "redo", "undoundo", "und", "late", "log", "names", "do undo", "stand late early",
                   "new", "add", "cut", "drop", "stands", "girth", "alike", "gives")

    def test_too_few_and_too_many_words(self):
        for good in ("new more 3", "add late 0 go ok 1", "cut late 0 flip ok 1", "drop late", "undo", "stands late early",
                     "girth guessing late early", "alike late early"):
            words = good.split(" ")
            for size in range(1, len(words)):
                self.check(" ".join(words[:size]), " ".join(words[size:]))
            self.check(good + " late", good + " 0", good + " ok ok", good + " undo")
        self.check("gives late flip", "gives late flip ok look", "gives", "gives late flip ok 1")

    def test_spaces_and_line_feeds(self):
        for good in ("new more 3", "add late 0 go ok 1", "cut late 0 flip ok 1", "drop late", "undo", "stands late early",
                     "girth guessing late early", "alike late early", "gives late", "gives late flip ok"):
            self.check(" " + good, good + " ", good + "\n", "\n" + good, good + "  ", good.replace(" ", "\n") + "\n")
            if " " in good:
                self.check(good.replace(" ", "  "), good.replace(" ", "  ", 1), good.replace(" ", "\n"), good.replace(" ", "_"))

    def test_names(self):
        for wrong in ("Late", "ninewords", "lat3", "late!", "3", "la-te", "(late)", "'late'", "*"):
            self.check(f"new {wrong} 3", f"add {wrong} 0 go ok 1", f"cut {wrong} 0 flip ok 1", f"drop {wrong}",
                       f"stands {wrong} early", f"stands late {wrong}", f"girth guessing {wrong} early",
                       f"girth guessing late {wrong}", f"alike {wrong} early", f"alike late {wrong}", f"gives {wrong}",
                       f"add late 0 {wrong} ok 1", f"add late 0 go {wrong} 1", f"cut late 0 {wrong} ok 1",
                       f"cut late 0 flip {wrong} 1", f"gives late {wrong} ok", f"gives late flip {wrong}",
                       f"gives late flip ok look {wrong}")

    def test_numbers_of_states(self):
        for wrong in ("0", "7", "10", "-1", "+3", "03", "3.", "1_0", "three", "True", "99999"):
            self.check(f"new more {wrong}", f"new late {wrong}")

    def test_states(self):
        for wrong in ("-1", "+1", "01", "00", "1.", "1_0", "one", "True", "", "0x1", "-0"):
            self.check(f"add late {wrong} go ok 1", f"add late 0 go ok {wrong}", f"cut late {wrong} flip ok 1",
                       f"cut late 0 flip ok {wrong}", f"add none {wrong} go ok 1")

    def test_kinds(self):
        for wrong in ("Guessing", "remember", "guess", "both", "0", "late", "guessing\n"):
            self.check(f"girth {wrong} late early", f"girth {wrong} none none")
        self.check("girth late early guessing")


class TestErrors(Refusals):
    def check(self, error, values, *commands):
        desk = full()
        before = all_of(desk)
        for command in commands:
            self.refuse(error, values, desk.do, command)
        self.assertEqual(all_of(desk), before)

    def test_taken_names(self):
        self.check(TakenName, ["late"], "new late 3", "new late 1")
        self.check(TakenName, ["early"], "new early 6")

    def test_the_first_unknown_name(self):
        self.check(UnknownName, ["none"], "drop none", "add none 0 go ok 1", "cut none 0 go ok 1", "stands none early",
                   "stands late none", "girth guessing none late", "girth remembering late none", "alike none late",
                   "alike late none", "gives none", "gives none flip ok", "stands none nothing", "girth guessing none no",
                   "alike none no", "add none 9 go ok 9", "cut none 9 go ok 9")

    def test_the_first_number_that_is_no_state(self):
        self.check(InvalidState, [3], "add late 3 go ok 0", "add late 0 go ok 3", "add late 3 go ok 9", "cut late 3 go ok 9",
                   "cut late 0 flip ok 3", "cut late 2 go ok 3")
        self.check(InvalidState, [10 ** 29], f"add late {10 ** 29} go ok 7", f"cut late 0 go ok {10 ** 29}")

    def test_steps(self):
        self.check(UnknownStep, [(0, "flip", "ok", 2)], "cut late 0 flip ok 2")
        self.check(UnknownStep, [(2, "look", "ok", 0)], "cut late 2 look ok 0")
        self.check(InvalidStep, [(0, "flip", "ok", 1)], "add late 0 flip ok 1", "add early 0 flip ok 1")

    def test_24_steps_and_25(self):
        desk = Desk()
        desk["box"] = Box(6, [0], many_steps(24))
        step = many_steps(24)[0]
        more = many_steps(25)[0]
        self.refuse(TooMany, ["steps", 24], desk.do, f"add box {more[0]} go ok {more[3]}")
        self.refuse(InvalidStep, [step], desk.do, f"add box {step[0]} go ok {step[3]}")
        self.refuse(InvalidState, [6], desk.do, "add box 6 go ok 0")
        self.assertEqual(desk.do(f"cut box {step[0]} go ok {step[3]}"), "23")
        self.assertEqual(desk.do(f"add box {more[0]} go ok {more[3]}"), "24")

    def test_girth_of_five_states_and_six(self):
        desk = full()
        desk.do_all("new five 5", "new six 6", "new one 1", "add one 0 go ok 0")
        for kind in ("remembering", "guessing"):
            self.assertEqual(desk.do(f"girth {kind} five five"), "1")
            self.assertEqual(desk.do(f"girth {kind} six five"), "1")
            self.refuse(TooMany, ["states", 5], desk.do, f"girth {kind} five six")
            self.refuse(TooMany, ["states", 5], desk.do, f"girth {kind} one six")
            self.refuse(UnknownName, ["none"], desk.do, f"girth {kind} none six")
        self.assertEqual((desk.do("stands one six"), desk.do("alike six six")), ("no go ok", "yes"))

    def test_nothing_to_undo(self):
        desk = Desk()
        self.refuse(NothingToUndo, [], desk.do, "undo")
        desk.do("new box 1")
        desk.do("undo")
        self.refuse(NothingToUndo, [], desk.do, "undo")


class TestDoAll(Refusals):
    def test_the_answers(self):
        desk = Desk()
        self.assertEqual(desk.do_all(), [])
        self.assertEqual(desk.do_all("new box 2", "add box 0 go ok 1", "undo", "gives box"),
                         ["ok", "1", "add box 0 go ok 1", "yes"])
        self.assertEqual(desk.log(), ["new box 2"])

    def fails(self, desk, position, error, values, *commands):
        before = all_of(desk)
        with self.assertRaises(CommandFailed) as caught:
            desk.do_all(*commands)
        self.assertEqual(vars(caught.exception), {"position": position})
        cause = caught.exception.__cause__
        self.assertIs(type(cause), error)
        self.assertEqual(list(vars(cause).values()), values)
        self.assertEqual(all_of(desk), before)

    def test_if_one_fails_none_has_an_effect(self):
        good = ["new more 2", "add more 0 go ok 1", "cut late 0 flip ok 1", "drop early", "undo", "undo", "drop late"]
        for error, values, command in (
            (InvalidCommand, [""], ""), (InvalidCommand, [None], None), (TakenName, ["more"], "new more 1"),
            (UnknownName, ["none"], "drop none"), (InvalidState, [2], "add more 2 go ok 0"),
            (UnknownStep, [(0, "go", "ok", 0)], "cut more 0 go ok 0"), (InvalidStep, [(0, "go", "ok", 1)], "add more 0 go ok 1"),
        ):
            self.fails(full(), 7, error, values, *good, command)
            self.fails(full(), 7, error, values, *good, command, *good, "junk")
            self.fails(full(), 2, error, values, *good[:2], command)
        self.fails(full(), 0, UnknownName, ["more"], "drop more", "new more 1")
        self.fails(Desk(), 0, NothingToUndo, [], "undo", "new a 1")

    def test_undo_within(self):
        desk = full()
        self.fails(desk, 13, NothingToUndo, [], "new more 1", "drop more", "undo", *["undo"] * 11)
        self.assertEqual(desk.do("undo"), MAKE_EARLY[-1])

    def test_limits(self):
        desk = full()
        self.fails(desk, 2, TooMany, ["states", 5], "new six 6", "new more 1", "girth guessing late six", "drop late")
        desk["box"] = Box(6, [0], many_steps(24))
        self.fails(desk, 1, TooMany, ["steps", 24], "add late 2 go ok 2", "add box 5 go ok 5")

    def test_what_was_done_ahead_can_still_be_taken_back(self):
        desk = full()
        with self.assertRaises(CommandFailed):
            desk.do_all("undo", "undo", "drop early", "drop early")
        self.assertEqual(desk.do("undo"), MAKE_EARLY[-1])
        self.assertEqual(desk["early"], early() - (2, "look", "tail", 3))

    def test_the_boxes_that_were_put_stay(self):
        desk = Desk()
        desk["box"] = late()
        self.fails(desk, 1, NothingToUndo, [], "gives box", "undo")
        self.fails(desk, 2, NothingToUndo, [], "drop box", "undo", "undo")
        self.assertEqual(desk["box"], late())


if __name__ == "__main__":
    unittest.main()
