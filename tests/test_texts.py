"""Point [91]: texts of boxes and muffled boxes, and how they are read."""

import itertools
import random
import unittest

from aheadbehind.boxes import Box
from aheadbehind.errors import InvalidText
from aheadbehind.muffled import Muffled
from aheadbehind.texts import packed, read, text_of, unpacked
from tests import plain, plain_more
from tests.refusals import Refusals
from tests.values import early, late, many_steps, parts, ring, told, unlike_values, wide

LATE = "box 3\nstart 0\nstep 0 flip ok 1\nstep 1 look head 2\nstep 1 look tail 2\n"
SHY = "muffled 2\nstart 0\nstart 1\nstep 0 go ok 0\nhidden 0 1\nhidden 1 1\n"
LINKS = [(state, to) for state in range(6) for to in range(6)]


def shy():
    return Muffled(2, [1, 0], [(0, "go", "ok", 0)], [(1, 1), (0, 1)])


def lines_of(text):
    """The lines of a text, without their line feeds."""
    return text.split("\n")[:-1]


def joined(lines):
    """The text with these lines."""
    return "".join(line + "\n" for line in lines)


class TestTextOf(unittest.TestCase):
    def test_of_a_box(self):
        self.assertEqual(text_of(late()), LATE)
        self.assertEqual(text_of(value=late()), LATE)
        self.assertEqual(text_of(Box(1, [0])), "box 1\nstart 0\n")
        self.assertEqual(text_of(Box(6, [5, 2])), "box 6\nstart 2\nstart 5\n")

    def test_of_a_muffled_box(self):
        self.assertEqual(text_of(shy()), SHY)
        self.assertEqual(text_of(Muffled(1, [0], [])), "muffled 1\nstart 0\n")
        self.assertEqual(text_of(Muffled(3, [2], [], [(2, 0)])), "muffled 3\nstart 2\nhidden 2 0\n")

    def test_numbers_are_sorted_as_numbers(self):
        box = wide(12, [11, 2, 10], [(10, "a", "x", 9), (9, "a", "x", 11), (9, "a", "x", 2)])
        wanted = "box 12\nstart 2\nstart 10\nstart 11\nstep 9 a x 2\nstep 9 a x 11\nstep 10 a x 9\n"
        self.assertEqual(text_of(box), wanted)
        self.assertEqual(text_of(Muffled.of(box, ["a"])),
                         "muffled 12\nstart 2\nstart 10\nstart 11\nhidden 9 2\nhidden 9 11\nhidden 10 9\n")

    def test_steps_are_sorted_as_tuples(self):
        box = Box(2, [0], [(0, "b", "a", 0), (0, "a", "b", 1), (0, "a", "b", 0), (0, "a", "a", 1), (0, "aa", "a", 0)])
        rows = ["0 a a 1", "0 a b 0", "0 a b 1", "0 aa a 0", "0 b a 0"]
        self.assertEqual(text_of(box), joined(["box 2", "start 0"] + ["step " + row for row in rows]))

    def test_the_value_stays(self):
        box = early()
        text_of(box)
        self.assertEqual(parts(box), parts(early()))


class TestRead(Refusals):
    def test_boxes_and_muffled_boxes(self):
        found = read(LATE)
        self.assertEqual((type(found), found), (Box, late()))
        found = read(text=SHY)
        self.assertEqual((type(found), found), (Muffled, shy()))
        self.assertEqual(read("box 1\nstart 0\n"), Box(1, [0]))
        self.assertEqual(read("muffled 1\nstart 0\n"), Muffled(1, [0], []))

    def test_the_greatest_ones(self):
        box = Box(6, [0, 1, 2, 3, 4, 5], many_steps(24))
        muffled = Muffled(6, [0, 1, 2, 3, 4, 5], many_steps(24), LINKS[:12])
        self.assertEqual((read(text_of(box)), read(text_of(muffled))), (box, muffled))

    def test_values_that_are_no_strings(self):
        for value in unlike_values() + [LATE.encode(), [LATE], lines_of(LATE), None, late(), bytearray(LATE.encode())]:
            if not isinstance(value, str):
                self.refuse(InvalidText, [0], read, value)
                self.refuse(InvalidText, [0], read, text=value)

    def test_strings_of_other_kinds(self):
        for value in unlike_values():
            if isinstance(value, str):
                self.refuse(InvalidText, [1], read, value)

    def test_an_empty_text_and_lines_that_must_follow(self):
        self.refuse(InvalidText, [1], read, "")
        for word in ("box", "muffled"):
            for states in range(1, 7):
                self.refuse(InvalidText, [2], read, f"{word} {states}\n")

    def test_cut_behind_each_line_and_within_each_line(self):
        for text, value in ((LATE, late()), (SHY, shy()), (text_of(early()), early())):
            for size in range(len(text)):
                less = text[:size]
                ended = less.count("\n")
                if less.endswith("\n") and ended >= 2:
                    self.assertEqual(text_of(read(less)), less)
                    self.assertIs(type(read(less)), type(value))
                else:
                    self.refuse(InvalidText, [ended + 1], read, less)
            self.assertEqual(read(text), value)

    def test_one_line_feed_more(self):
        for text in (LATE, SHY):
            self.refuse(InvalidText, [text.count("\n") + 1], read, text + "\n")
            self.refuse(InvalidText, [1], read, "\n" + text)
            self.refuse(InvalidText, [2], read, text.replace("\n", "\n\n", 1))
        self.refuse(InvalidText, [1], read, "\n")
        self.refuse(InvalidText, [1], read, "\n\n")

    def wrong(self, line, lines):
        """With this wrong line behind the others a text is refused, whatever follows."""
        number = len(lines) + 1
        for further in ([], ["start 0"], ["junk", ""]):
            self.refuse(InvalidText, [number], read, joined(lines + [line] + further))
        if line:
            self.refuse(InvalidText, [number], read, joined(lines) + line)

    def test_first_lines(self):
        for line in ("box 0", "box 7", "box 10", "box 03", "box +3", "box -3", "box  3", "box 3 ", " box 3", "box", "box ",
                     "Box 3", "boxes 3", "box 3 3", "box three", "box\t3", "3 box", "muffled", "muffled 0", "muffled 7",
                     "muffled 06", "hidden 3", "start 0", "step 0 go ok 0", "", " ", "3", "box 3.", "box 1_0", "box 3start 0"):
            self.wrong(line, [])

    def test_starts(self):
        for word in ("box", "muffled"):
            for line in ("start 3", "start -1", "start +0", "start 00", "start 01", "start", "start ", "start  0", "start 0 ",
                         " start 0", "start 0 1", "Start 0", "starts 0", "start a", "start 10", "start True", "state 0", ""):
                self.wrong(line, [f"{word} 3"])
                self.wrong(line, [f"{word} 3", "start 0"])
            for line in ("start 1", "start 0"):
                self.wrong(line, [f"{word} 3", "start 1"])
                self.wrong(line, [f"{word} 3", "start 0", "start 1"])
            self.wrong("start 2", [f"{word} 3", "start 0", "step 0 go ok 0"])
        self.wrong("start 0", ["muffled 3", "start 1", "hidden 0 1"])

    def test_a_start_must_come_first(self):
        for word in ("box", "muffled"):
            for line in ("step 0 go ok 0", "hidden 0 0", "junk", f"{word} 3"):
                self.wrong(line, [f"{word} 3"])

    def test_steps(self):
        for line in ("step 3 go ok 0", "step 0 go ok 3", "step 0 go ok", "step 0 go ok 0 0", "step 0 go 0", "step  0 go ok 0",
                     "step 0 go  ok 0", "step 0 go ok 0 ", "step 00 go ok 0", "step 0 go ok 00", "step 0 go ok +1",
                     "step -1 go ok 0", "step 0 Go ok 0", "step 0 go ok1 0", "step 0 ninewords ok 0", "step 0 go ninewords 0",
                     "step 0 0 ok 0", "step 0 go 1 0", "step go 0 ok 0", "step 0  ok 0", "Step 0 go ok 0", "steps 0 go ok 0",
                     "step", "step 0", "0 go ok 0", "step (0, 'go', 'ok', 0)", "step 0 go-o ok 0", "step 0 go ok 01"):
            self.wrong(line, ["box 3", "start 0"])
            self.wrong(line, ["muffled 3", "start 0", "start 2", "step 0 a a 0"])

    def test_steps_out_of_sequence(self):
        ahead = ["box 3", "start 0", "step 1 go ok 1"]
        for line in ("step 1 go ok 1", "step 1 go ok 0", "step 1 go no 2", "step 1 and ok 2", "step 0 up up 2"):
            self.wrong(line, ahead)
            self.wrong(line, ["muffled 3"] + ahead[1:])
            self.wrong(line, ahead + ["step 2 a a 0"])
        for line in ("step 1 go ok 2", "step 1 go oka 0", "step 1 goa a 0", "step 2 a a 0"):
            self.assertEqual(len(read(joined(ahead + [line]))), 2)
        self.wrong("step 1 go ok 2", ["muffled 3", "start 0", "hidden 0 0"])

    def test_hidden_steps(self):
        for line in ("hidden 0 3", "hidden 3 0", "hidden 0", "hidden 0 1 2", "hidden 0  1", "hidden 0 1 ", "hidden 00 1",
                     "hidden 0 +1", "hidden -0 1", "hidden", "Hidden 0 1", "hide 0 1", "hidden a b", "hidden (0, 1)"):
            self.wrong(line, ["muffled 3", "start 0"])
            self.wrong(line, ["muffled 3", "start 0", "step 0 go ok 0", "hidden 0 0"])
        for line in ("hidden 1 1", "hidden 1 0", "hidden 0 2"):
            self.wrong(line, ["muffled 3", "start 0", "hidden 1 1"])
        self.assertEqual(read("muffled 3\nstart 0\nhidden 1 1\nhidden 1 2\nhidden 2 0\n").hidden(), [(1, 1), (1, 2), (2, 0)])

    def test_a_box_has_no_hidden_steps(self):
        self.wrong("hidden 0 1", ["box 3", "start 0"])
        self.wrong("hidden 0 0", ["box 3", "start 0", "step 0 go ok 0"])

    def test_the_seventh_state(self):
        self.wrong("box 7", [])
        self.wrong("start 6", ["box 6", "start 5"])
        self.refuse(InvalidText, [1], read, text_of(ring(7)))
        self.refuse(InvalidText, [1], read, text_of(Muffled.of(ring(7), [])))

    def test_the_25th_step(self):
        rows = [f"step {state} go ok {to}" for state, _, _, to in sorted(many_steps(25))]
        for word in ("box", "muffled"):
            self.wrong(rows[24], [f"{word} 6", "start 0"] + rows[:24])
            self.wrong(rows[24], [f"{word} 6", "start 0", "start 4"] + rows[:24])
            self.refuse(InvalidText, [30], read, joined([f"{word} 6", "start 0", "start 1", "start 2", "start 3"] + rows[:24]
                                                        + rows[:1]))
        full = joined(["muffled 6", "start 0"] + rows[:24] + ["hidden 0 0"])
        self.assertEqual(len(read(full).bare()), 24)
        self.refuse(InvalidText, [27], read, text_of(wide(6, [0], many_steps(25))))

    def test_the_13th_hidden_step(self):
        rows = [f"hidden {state} {to}" for state, to in LINKS]
        ahead = ["muffled 6", "start 0", "step 0 go ok 0"]
        self.assertEqual(len(read(joined(ahead + rows[:12])).hidden()), 12)
        self.wrong(rows[12], ahead + rows[:12])
        self.wrong(rows[12], ahead[:2] + rows[:12])

    def test_lines_that_stand_twice(self):
        for text in (LATE, SHY):
            lines = lines_of(text)
            for place in range(len(lines)):
                self.refuse(InvalidText, [place + 2], read, joined(lines[:place + 1] + lines[place:]))

    def test_two_lines_exchanged(self):
        for text in (LATE, SHY, text_of(early())):
            lines = lines_of(text)
            for place in range(len(lines) - 1):
                changed = lines[:place] + [lines[place + 1], lines[place]] + lines[place + 2:]
                # Only a start behind another one may stand in the place of that one.
                words = lines[place].split(" ")[0], lines[place + 1].split(" ")[0]
                alone = place == 0 or (place == 1 and words != ("start", "start"))
                self.refuse(InvalidText, [place + 1 if alone else place + 2], read, joined(changed))

    def test_the_first_wrong_line_decides(self):
        self.refuse(InvalidText, [3], read, "box 3\nstart 0\nstart 0\nstart 9\n")
        self.refuse(InvalidText, [1], read, "box 9\nstart 9")
        self.refuse(InvalidText, [2], read, "box 3\nstart 3\nstart 0")
        self.refuse(InvalidText, [3], read, "box 3\nstart 0\nstep 0 go ok 1")

    def test_what_is_read_is_new(self):
        self.assertEqual(read(LATE), read(LATE))
        read(SHY).hidden().clear()
        self.assertEqual(read(SHY), shy())


class TestPacked(Refusals):
    def test_bytes_one_for_each_sign(self):
        for value in (late(), shy(), Box(1, [0]), early()):
            data = packed(value)
            self.assertIs(type(data), bytes)
            self.assertEqual(list(data), [ord(sign) for sign in text_of(value)])
            self.assertEqual((unpacked(data), type(unpacked(data))), (value, type(value)))
        self.assertEqual(packed(value=late()), LATE.encode())
        self.assertEqual(unpacked(data=SHY.encode()), shy())

    def test_values_that_are_no_bytes(self):
        for value in unlike_values() + [LATE, bytearray(LATE.encode()), list(LATE.encode()), memoryview(LATE.encode())]:
            if not isinstance(value, bytes):
                self.refuse(InvalidText, [0], unpacked, value)
                self.refuse(InvalidText, [0], unpacked, data=value)

    def test_bytes_that_are_no_signs(self):
        data = LATE.encode()
        for byte in [*range(10), *range(11, 32), *range(127, 256)]:
            for place in (0, 3, 8, len(data)):
                self.refuse(InvalidText, [0], unpacked, data[:place] + bytes([byte]) + data[place:])
            self.refuse(InvalidText, [0], unpacked, bytes([byte]))

    def test_bytes_that_are_signs(self):
        data = LATE.encode()
        for byte in range(32, 127):
            self.refuse(InvalidText, [1], unpacked, bytes([byte]) + data)
            self.refuse(InvalidText, [1], unpacked, bytes([byte]))
            self.refuse(InvalidText, [6], unpacked, data + bytes([byte]))
            if not 97 <= byte <= 122:
                place = data.index(b"lip")
                self.refuse(InvalidText, [3], unpacked, data[:place] + bytes([byte]) + data[place:])

    def test_the_same_as_read(self):
        for text in (LATE, SHY):
            for size in range(len(text)):
                wanted = self.outcome(read, text[:size])
                self.assertEqual(self.outcome(unpacked, text[:size].encode()), wanted)
        self.refuse(InvalidText, [1], unpacked, b"")
        self.refuse(InvalidText, [2], unpacked, b"box 3\n")

    def outcome(self, deed, value):
        try:
            return deed(value)
        except InvalidText as error:
            return error.line


class TestFacts(unittest.TestCase):
    """Against all texts of a small kind."""

    def all_texts(self):
        steps = ["step 0 a x 0", "step 0 a x 1", "step 1 a x 0"]
        hidden = ["hidden 0 1", "hidden 1 0", "hidden 1 1"]
        heads = [["box 2"], ["muffled 2"]]
        starts = [part for part in plain.parts_of(["start 0", "start 1"]) if part]
        texts = [(*head, *start, *some, *more) for head in heads for start in starts for some in plain.parts_of(steps)
                 for more in plain.parts_of(hidden) if not more or head == ["muffled 2"]]
        return set(texts), steps + hidden + ["box 2", "muffled 2", "start 0", "start 1"]

    def test_the_first_line_such_that_no_text_begins_with_those_up_to_it(self):
        texts, pool = self.all_texts()
        begun = {text[:size] for text in texts for size in range(len(text) + 1)}
        pool += ["box 7", "start 2", "step 0 a x 2", "hidden 2 0", "hidden 0 01", "", "start 0 "]
        chance = random.Random(409)
        tried = [list(text) for text in sorted(texts)]
        for text in sorted(texts) * 4:
            lines = list(text)
            for _ in range(chance.randint(1, 2)):
                place = chance.randrange(len(lines) + 1)
                lines[place:place + chance.randint(0, 1)] = [chance.choice(pool)][:chance.randint(0, 1)]
            tried.append(lines)
        tried += [list(lines) for size in range(4) for lines in itertools.product(pool, repeat=size)]
        counts = {}
        for lines in tried:
            wanted = next((size for size in range(1, len(lines) + 1) if tuple(lines[:size]) not in begun), None)
            if wanted is None and tuple(lines) not in texts:
                wanted = len(lines) + 1
            try:
                found = None
                self.assertEqual(text_of(read(joined(lines))), joined(lines))
            except InvalidText as error:
                found = error.line
            self.assertEqual(found, wanted, told(lines))
            counts[found] = counts.get(found, 0) + 1
        self.assertTrue(min(counts[line] for line in (None, 1, 2, 3, 4, 5)) > 20, counts)

    def test_texts_that_are_told_are_read_back(self):
        texts = set()
        for states, starts, steps, hidden in plain_more.some_parts(300, 419, 6, 24, 12):
            box, muffled = Box(states, starts, steps), Muffled(states, starts, steps, hidden)
            for value in (box, muffled):
                self.assertEqual(read(text_of(value)), value)
                self.assertEqual(unpacked(packed(value)), value)
                texts.add(text_of(value))
            rows = [f"start {state}" for state in starts] + [f"step {a} {b} {c} {d}" for a, b, c, d in steps]
            self.assertEqual(text_of(box), joined([f"box {states}"] + rows))
            rows += [f"hidden {a} {b}" for a, b in hidden]
            self.assertEqual(text_of(muffled), joined([f"muffled {states}"] + rows))
        self.assertTrue(len(texts) > 400, len(texts))


if __name__ == "__main__":
    unittest.main()
