"""Muffled boxes: some of their steps are hidden, so that no caller hears them."""

from aheadbehind.basics import is_list, is_state
from aheadbehind.boxes import check_limits, check_parts, ends_of, made_box, reached
from aheadbehind.checks import check_calls, check_state, first_wrong
from aheadbehind.errors import InvalidHidden, InvalidReading, TakenAnswer, TooMany
from aheadbehind.standing import missing_row

MOST_HIDDEN = 12
NO = "no"
EVER = "ever"
READINGS = ("plain", "firm", "awake", "wary")


class Muffled:
    """A box with hidden steps (state, state) beside those that are heard. It never changes."""

    def __init__(self, states, starts, steps, hidden=()):
        check_parts(states, starts, steps)
        check_hidden(states, hidden)
        check_limits(states, steps)
        if len(hidden) > MOST_HIDDEN:
            raise TooMany("hidden", MOST_HIDDEN)
        self._box = made_box(states, starts, steps)
        self._hidden = sorted(hidden)

    @classmethod
    def of(cls, box, calls):
        """The muffled box in which all steps with one of these calls are hidden."""
        check_calls(calls)
        steps = [step for step in box.steps() if step[1] in calls]
        return made_muffled(box.without(steps), [(state, to) for state, _, _, to in steps])

    def bare(self):
        """The box without the hidden steps."""
        return self._box

    def hidden(self):
        """The sorted list of the hidden steps."""
        return list(self._hidden)

    def moves(self, state):
        """The sorted list of the states to which hidden steps, perhaps none, lead from this one."""
        check_state(self._box.states, state)
        return reached(ends_of(self._hidden), [state])

    def refused(self, state):
        """The sorted list of the calls of the box that this state refuses."""
        check_state(self._box.states, state)
        return [call for call in self._box.calls() if refuses(self, state, call)]

    def endless(self):
        """The sorted list of the states from which hidden steps can go on without an end."""
        ends = ends_of(self._hidden)
        states = range(self._box.states)
        rings = [state for state in states if state in reached(ends, ends.get(state, []))]
        return [state for state in states if has_common(self.moves(state), rings)]

    def plain(self):
        """The box in which steps go with the hidden ones ahead of them and behind them."""
        return with_plain_steps(self, 0, [])

    def firm(self, calls):
        """The plain box that also answers no to each of these calls that is refused."""
        check_calls(calls)
        check_untaken(self, NO)
        return with_plain_steps(self, 0, refusals(self, calls))

    def awake(self, calls):
        """The plain box that also answers ever to each of these calls where it may wait without an end."""
        check_calls(calls)
        check_untaken(self, EVER)
        return with_plain_steps(self, 1, waits(self, calls))

    def wary(self, calls):
        """The box both firm and awake."""
        check_calls(calls)
        check_untaken(self, NO)
        check_untaken(self, EVER)
        return with_plain_steps(self, 1, refusals(self, calls) + waits(self, calls))

    def __eq__(self, other):
        return isinstance(other, Muffled) and self._box == other._box and self._hidden == other._hidden

    def __repr__(self):
        return f"Muffled({self._box.states}, {self._box.starts()}, {self._box.steps()}, {self._hidden})"


def made_muffled(box, hidden):
    """A muffled box of valid parts that the package made; hidden steps that stand twice are one.

    The limits hold for the muffled boxes of callers alone, so the class cannot be given these parts.
    """
    muffled = Muffled(1, [0], [])
    muffled._box = box
    muffled._hidden = sorted(set(hidden))
    return muffled


def check_hidden(states, hidden):
    """Raise InvalidHidden unless hidden is a list of unlike tuples of two of so many states."""
    if not is_list(hidden):
        raise InvalidHidden(None)
    position = first_wrong(hidden, [is_hidden(states, step) for step in hidden])
    if position is not None:
        raise InvalidHidden(position)


def is_hidden(states, value):
    """Whether any value is a hidden step of a muffled box with so many states."""
    if not isinstance(value, tuple) or len(value) != 2:
        return False
    return is_state(states, value[0]) and is_state(states, value[1])


def check_untaken(muffled, answer):
    """Raise TakenAnswer if a step of the box has this answer."""
    if answer in muffled.bare().answers():
        raise TakenAnswer(answer)


def has_common(first, second):
    """Whether a value is in both lists."""
    for value in first:
        if value in second:
            return True
    return False


def refuses(muffled, state, call):
    """Whether no hidden step goes from the state, and no step with the call."""
    if [start for start, _ in muffled.hidden() if start == state]:
        return False
    return call not in [step[1] for step in muffled.bare().steps_from(state)]


def refusals(muffled, calls):
    """The steps by which the muffled box answers no, and goes on behind the call that is refused."""
    states = range(muffled.bare().states)
    return [
        (state, call, NO, to) for call in calls for state in states for to in muffled.moves(state)
        if refuses(muffled, to, call)
    ]


def waits(muffled, calls):
    """The steps by which the muffled box answers ever, to the state behind all others."""
    last = muffled.bare().states
    return [(state, call, EVER, last) for call in calls for state in muffled.endless()]


def with_plain_steps(muffled, more, further):
    """The muffled box made plain, with so many states more, and with further steps."""
    box = muffled.bare()
    moves = [muffled.moves(state) for state in range(box.states)]
    steps = list(further)
    for state, nears in enumerate(moves):
        for near in nears:
            for _, call, answer, far in box.steps_from(near):
                steps.extend([(state, call, answer, to) for to in moves[far]])
    starts = [to for start in box.starts() for to in moves[start]]
    return made_box(box.states + more, starts, steps)


def made(muffled, reading, calls):
    """The muffled box made as a reading tells."""
    if reading == "firm":
        return muffled.firm(calls)
    if reading == "awake":
        return muffled.awake(calls)
    if reading == "wary":
        return muffled.wary(calls)
    return muffled.plain()


def stands(one, other, reading, calls):
    """Whether the one muffled box stands for the other in this reading."""
    return missing(one, other, reading, calls) is None


def missing(one, other, reading, calls):
    """The missing row of the muffled boxes as the reading makes them; None if there is none."""
    if not isinstance(reading, str) or reading not in READINGS:
        raise InvalidReading(reading)
    check_calls(calls)
    return missing_row(made(one, reading, calls), made(other, reading, calls))
