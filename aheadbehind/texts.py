"""Texts of boxes and of muffled boxes, and how they are read."""

from aheadbehind.basics import is_state
from aheadbehind.boxes import Box
from aheadbehind.errors import InvalidText
from aheadbehind.muffled import MOST_HIDDEN, Muffled, is_hidden

BOX = "box"
MUFFLED = "muffled"

# The sequence of the lines behind the first one.
START = 0
STEP = 1
HIDDEN = 2


def text_of(value):
    """The text of a box or a muffled box."""
    if isinstance(value, Muffled):
        return told_text(MUFFLED, value.bare(), value.hidden())
    return told_text(BOX, value, [])


def told_text(word, box, hidden):
    """The text with this first word of a box and of hidden steps."""
    lines = [f"{word} {box.states}"]
    lines.extend([f"start {start}" for start in box.starts()])
    lines.extend([f"step {state} {call} {answer} {to}" for state, call, answer, to in box.steps()])
    lines.extend([f"hidden {state} {to}" for state, to in hidden])
    return "\n".join([*lines, ""])


def read(text):
    """The box or the muffled box with this text."""
    if not isinstance(text, str):
        raise InvalidText(0)
    *lines, rest = text.split("\n")
    word, states = head_of(lines)
    parts = []
    for number, line in enumerate(lines[1:], 2):
        part = part_of(line, states)
        if part is None or not goes_on(word, parts, part):
            raise InvalidText(number)
        parts.append(part)
    # With a start the text may end, but not within a line.
    if not parts or rest != "":
        raise InvalidText(len(lines) + 1)
    starts = [values[0] for place, values in parts if place == START]
    steps = [values for place, values in parts if place == STEP]
    hidden = [values for place, values in parts if place == HIDDEN]
    return Muffled(states, starts, steps, hidden) if word == MUFFLED else Box(states, starts, steps)


def head_of(lines):
    """The word and the number of states that the first one of these lines tells."""
    if not lines:
        raise InvalidText(1)
    word, _, count = lines[0].partition(" ")
    if word not in (BOX, MUFFLED) or count not in [str(states + 1) for states in range(Box.MOST_STATES)]:
        raise InvalidText(1)
    return word, int(count)


def part_of(line, states):
    """The tuple (place, values) of a line for so many states, values being those behind its word; None if it is wrong.

    Numbers are looked up as they are written, so each has just one way to be written.
    """
    numbers = {str(state): state for state in range(states)}
    word, *further = line.split(" ")
    values = tuple([numbers.get(told, told) for told in further])
    if word == "start" and len(values) == 1 and is_state(states, values[0]):
        return START, values
    if word == "step" and Box.is_step(states, values):
        return STEP, values
    if word == "hidden" and is_hidden(states, values):
        return HIDDEN, values
    return None


def goes_on(word, parts, part):
    """Whether a text with this first word and these parts may go on with one part more."""
    place = part[0]
    if not parts:
        return place == START
    if place == HIDDEN and word != MUFFLED:
        return False
    most = (Box.MOST_STATES, Box.MOST_STEPS, MOST_HIDDEN)[place]
    return parts[-1] < part and len([held for held in parts if held[0] == place]) < most


def packed(value):
    """The text of a box or a muffled box as bytes, one for each sign."""
    return text_of(value).encode("ascii")


def unpacked(data):
    """The box or the muffled box whose text these bytes are."""
    if not isinstance(data, bytes) or not all([sign == 10 or 32 <= sign <= 126 for sign in data]):
        raise InvalidText(0)
    return read(data.decode("ascii"))
