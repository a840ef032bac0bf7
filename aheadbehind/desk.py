"""A desk, which keeps boxes by names and follows commands."""

from aheadbehind.basics import is_name, is_state
from aheadbehind.boxes import Box
from aheadbehind.checks import is_kind
from aheadbehind.errors import (
    BoxError, CommandFailed, InvalidBox, InvalidCommand, InvalidName, InvalidState, LimitError, MissingError,
    NothingToUndo, NotStanding, StateError, TakenName, UnknownName, UnknownStep,
)
from aheadbehind.fans import least_girth_of
from aheadbehind.rows import gives
from aheadbehind.standing import are_alike, missing_row

# What the words behind the first one are. Behind the name of gives a row may follow.
FORMS = {
    "new": ("name", "states"),
    "add": ("name", "state", "name", "name", "state"),
    "cut": ("name", "state", "name", "name", "state"),
    "drop": ("name",),
    "undo": (),
    "stands": ("name", "name"),
    "girth": ("kind", "name", "name"),
    "alike": ("name", "name"),
    "gives": ("name",),
}


def with_new(boxes, words):
    """These boxes with a new one, and the answer."""
    name, count = words
    if name in boxes:
        raise TakenName(name)
    return {**boxes, name: Box(int(count), [0])}, "ok"


def with_added(boxes, words):
    """These boxes with a step more in one of them, and the answer."""
    box, step = box_and_step(boxes, words)
    more = box + step
    return {**boxes, words[0]: more}, str(len(more))


def with_cut(boxes, words):
    """These boxes with a step less in one of them, and the answer."""
    box, step = box_and_step(boxes, words)
    if step not in box:
        raise UnknownStep(step)
    less = box - step
    return {**boxes, words[0]: less}, str(len(less))


def with_dropped(boxes, words):
    """These boxes without one of them, and the answer."""
    known_box(boxes, words[0])
    return {name: boxes[name] for name in boxes if name != words[0]}, "ok"


def told_stands(boxes, words):
    """Whether the one box stands for the other, or which row is missing."""
    one, other = known_boxes(boxes, words)
    row = missing_row(one, other)
    if row is None:
        return "yes"
    signs = [f"{call} {answer}" for call, answer in row]
    return " ".join(["no", *signs])


def told_girth(boxes, words):
    """The least girth of a fan of the kind."""
    one, other = known_boxes(boxes, words[1:])
    try:
        return str(least_girth_of(words[0], one, other))
    except NotStanding:
        return "-"


def told_alike(boxes, words):
    """Whether both boxes are alike."""
    one, other = known_boxes(boxes, words)
    return yes_or_no(are_alike(one, other))


def told_gives(boxes, words):
    """Whether the box gives the row."""
    box = known_box(boxes, words[0])
    return yes_or_no(gives(box, list(zip(words[1::2], words[2::2]))))


CHANGES = {"new": with_new, "add": with_added, "cut": with_cut, "drop": with_dropped}
QUESTIONS = {"stands": told_stands, "girth": told_girth, "alike": told_alike, "gives": told_gives}


class Desk:
    """Boxes by their names, and the commands by which they came about. It changes with its commands."""

    def __init__(self):
        # The dict of the boxes is never changed but replaced, so that what was done can keep the one before it.
        self._boxes = {}
        self._done = ()

    def names(self):
        """The sorted list of the names of the boxes."""
        return sorted(self._boxes)

    def do(self, command):
        """The answer to a command, which is followed."""
        if not is_command(command):
            raise InvalidCommand(command)
        word, *words = command.split(" ")
        if word == "undo":
            return self._taken_back()
        if word in CHANGES:
            change = CHANGES[word]
            boxes, answer = change(self._boxes, words)
            self._done = (*self._done, (command, self._boxes))
            self._boxes = boxes
            return answer
        question = QUESTIONS[word]
        return question(self._boxes, words)

    def do_all(self, *commands):
        """The list of the answers to the commands; if one fails, none has an effect."""
        boxes = self._boxes
        done = self._done
        answers = []
        for position, command in enumerate(commands):
            try:
                answers.append(self.do(command))
            except (BoxError, MissingError, StateError, LimitError) as failure:
                self._boxes = boxes
                self._done = done
                raise CommandFailed(position) from failure
        return answers

    def log(self):
        """The list of the commands that changed the boxes and were not taken back."""
        return [command for command, _ in self._done]

    def _taken_back(self):
        """Take back the last command that changed the boxes, and tell it."""
        if not self._done:
            raise NothingToUndo()
        command, boxes = self._done[-1]
        self._done = self._done[:-1]
        self._boxes = boxes
        return command

    def __call__(self, command):
        return self.do(command)

    def __len__(self):
        return len(self._boxes)

    def __contains__(self, x):
        return is_name(x) and x in self._boxes

    def __getitem__(self, at):
        if not is_name(at) or at not in self._boxes:
            raise UnknownName(at)
        return self._boxes[at]

    def __setitem__(self, at, worth):
        if not is_name(at):
            raise InvalidName(at)
        if not isinstance(worth, Box) or worth.states > Box.MOST_STATES or len(worth) > Box.MOST_STEPS:
            raise InvalidBox(worth)
        self._boxes = {**self._boxes, at: worth}
        self._done = ()

    def __iter__(self):
        raise TypeError("a desk is not iterated over")


def is_command(value):
    """Whether any value is a command."""
    if not isinstance(value, str):
        return False
    word, *words = value.split(" ")
    if word not in FORMS:
        return False
    if word == "gives":
        return len(words) % 2 == 1 and all([is_name(told) for told in words])
    forms = FORMS[word]
    return len(words) == len(forms) and all([fits(form, told) for form, told in zip(forms, words)])


def fits(form, word):
    """Whether a word is one of a form: a name, a kind, a number of states or a state."""
    if form == "name":
        return is_name(word)
    if form == "kind":
        return is_kind(word)
    if form == "states":
        return word in [str(states + 1) for states in range(Box.MOST_STATES)]
    return word.isascii() and word.isdigit() and (word == "0" or not word.startswith("0"))


def yes_or_no(told):
    """The answer for a truth."""
    return "yes" if told else "no"


def known_box(boxes, name):
    """The box of this name."""
    if name not in boxes:
        raise UnknownName(name)
    return boxes[name]


def known_boxes(boxes, names):
    """The list of the boxes of these names."""
    return [known_box(boxes, name) for name in names]


def box_and_step(boxes, words):
    """The box of a name, and the step of it that the further words tell."""
    name, state, call, answer, to = words
    box = known_box(boxes, name)
    step = (int(state), call, answer, int(to))
    for told in (step[0], step[3]):
        if not is_state(box.states, told):
            raise InvalidState(told)
    return box, step
