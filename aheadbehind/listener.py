"""A listener, which hears a box sign by sign and knows where it may be, and where it may have been."""

from aheadbehind.basics import is_name, is_sign
from aheadbehind.checks import check_limited, check_number, check_row
from aheadbehind.errors import InvalidCall, InvalidSign, NotGiven, NothingToUndo
from aheadbehind.rows import ahead, behind, led, next_signs, ways_on


class Listener:
    """What was heard of a box, a row that it gives. It changes with each sign that it hears."""

    def __init__(self, box, row=()):
        check_row(row)
        check_limited(box)
        self._box = box
        # A tuple that is never changed, so that a trial can keep it.
        self._heard = heard_row(box, row)
        self._least = len(self._heard)

    @property
    def box(self):
        """The box that is heard."""
        return self._box

    @property
    def row(self):
        """The list of the signs heard so far."""
        return list(self._heard)

    @row.setter
    def row(self, value):
        """Begin anew with this row."""
        self.begin(value)

    def begin(self, row):
        """Begin anew with a row, of which nothing can be taken back."""
        check_row(row)
        self._heard = heard_row(self._box, row)
        self._least = len(self._heard)

    def now(self):
        """The sorted list of the states in which the box may be."""
        return behind(self._box, self._heard)

    def at(self, number):
        """The sorted list of the states in which the box may have been behind the first so many signs."""
        check_number(number, 0, len(self._heard))
        later = ahead(self._box, self._heard[number:])
        return [state for state in behind(self._box, self._heard[:number]) if state in later]

    def answers(self, call):
        """The sorted list of the answers that the box may give to the call now."""
        if not is_name(call):
            raise InvalidCall(call)
        return [answer for heard, answer in next_signs(self._box, self._heard) if heard == call]

    def hear(self, call, answer):
        """Hear one sign more."""
        if not is_sign((call, answer)):
            raise InvalidSign((call, answer))
        if (call, answer) not in next_signs(self._box, self._heard):
            raise NotGiven(len(self._heard))
        self._heard = (*self._heard, (call, answer))

    def undo(self):
        """Take back the last sign that was heard and not taken back."""
        if len(self._heard) == self._least:
            raise NothingToUndo()
        self._heard = self._heard[:-1]

    def trial(self):
        """A context manager that gives this listener, and leaves it as it was when it was entered."""
        return Trial(self)

    def tried(self, action):
        """What the function returns for this listener, called within a trial."""
        with self.trial() as listener:
            return action(listener)

    def __call__(self, call, answer):
        self.hear(call, answer)
        return self.now()

    def __iadd__(self, other):
        if not is_sign(other):
            raise InvalidSign(other)
        call, answer = other
        self.hear(call, answer)
        return self

    def __len__(self):
        return len(self._heard)


class Trial:
    """A context in which a listener may be changed: when it is left, it is as it was when it was entered."""

    def __init__(self, listener):
        self._listener = listener
        self._heard = ()
        self._least = 0

    def __enter__(self):
        self._heard = self._listener._heard
        self._least = self._listener._least
        return self._listener

    def __exit__(self, kind, value, trace):
        listener = self._listener
        listener._heard = self._heard
        listener._least = self._least


def heard_row(box, row):
    """The row as a tuple, if the box gives it."""
    ways = ways_on(box)
    states = box.starts()
    for position, sign in enumerate(row):
        states = led(ways, states, sign)
        if not states:
            raise NotGiven(position)
    return tuple(row)
