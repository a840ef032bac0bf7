"""Boxes: states, some of them starts, and steps with a call and an answer."""

from aheadbehind.basics import is_integer, is_list, is_name, is_state
from aheadbehind.checks import check_row, check_state, first_wrong
from aheadbehind.errors import InvalidOrder, InvalidStarts, InvalidStates, InvalidStep, InvalidSteps, TooMany


class Box:
    """A box with states from 0 on, starts, and steps (state, call, answer, state). It never changes."""

    MOST_STATES = 6
    MOST_STEPS = 24

    def __init__(self, states, starts, steps=()):
        check_parts(states, starts, steps)
        check_limits(states, steps)
        self._states = states
        self._starts = sorted(starts)
        self._steps = sorted(steps)

    @staticmethod
    def is_step(states, value):
        """Whether any value is a step of a box with so many states."""
        if not isinstance(value, tuple) or len(value) != 4:
            return False
        state, call, answer, to = value
        return is_state(states, state) and is_name(call) and is_name(answer) and is_state(states, to)

    @classmethod
    def of_row(cls, row):
        """The box that gives just this row and its beginnings, with a state for each of these."""
        check_row(row)
        steps = [(place, call, answer, place + 1) for place, (call, answer) in enumerate(row)]
        return cls(len(row) + 1, [0], steps)

    @property
    def states(self):
        """How many states there are."""
        return self._states

    @property
    def is_sure(self):
        """Whether there is one start, and from each state at most one step with each sign."""
        return len(self._starts) == 1 and len({step[:3] for step in self._steps}) == len(self._steps)

    def starts(self):
        """The sorted list of the starts."""
        return list(self._starts)

    def steps(self):
        """The sorted list of the steps."""
        return list(self._steps)

    def calls(self):
        """The sorted list of the calls of all steps."""
        return sorted({step[1] for step in self._steps})

    def answers(self):
        """The sorted list of the answers of all steps."""
        return sorted({step[2] for step in self._steps})

    def signs(self):
        """The sorted list of the signs of all steps."""
        return sorted({step[1:3] for step in self._steps})

    def reachable(self):
        """The sorted list of the states to which steps, perhaps none, lead from a start."""
        return reached(ends_of(self._steps), self._starts)

    def steps_from(self, state):
        """The sorted list of the steps from this state."""
        check_state(self._states, state)
        return [step for step in self._steps if step[0] == state]

    def steps_to(self, state):
        """The sorted list of the steps to this state."""
        check_state(self._states, state)
        return [step for step in self._steps if step[3] == state]

    def without(self, steps):
        """The box without these steps of it."""
        check_steps_of(self, steps)
        return made_box(self._states, self._starts, [step for step in self._steps if step not in steps])

    def with_starts(self, starts):
        """The box with these starts alone."""
        check_starts(self._states, starts)
        return made_box(self._states, starts, self._steps)

    def part(self):
        """The reachable part of the box, its states numbered in their sequence."""
        return renumbered(self, self.reachable())

    def numbered(self, order):
        """The box in which the state order[k] is the state k."""
        if not is_order(self._states, order):
            raise InvalidOrder(order)
        return renumbered(self, order)

    def turned(self):
        """The box with all steps the other way round, and all states as starts."""
        steps = [(to, call, answer, state) for state, call, answer, to in self._steps]
        return made_box(self._states, list(range(self._states)), steps)

    def __getitem__(self, at):
        check_state(self._states, at)
        ends = {}
        for state, call, answer, to in self._steps:
            if state == at:
                ends.setdefault((call, answer), []).append(to)
        return ends

    def __len__(self):
        return len(self._steps)

    def __contains__(self, x):
        # True equals 1, so a look into the list alone would find too much.
        return Box.is_step(self._states, x) and x in self._steps

    def __iter__(self):
        return iter(self._steps)

    def __add__(self, other):
        if not Box.is_step(self._states, other) or other in self._steps:
            raise InvalidStep(other)
        if len(self._steps) >= Box.MOST_STEPS:
            raise TooMany("steps", Box.MOST_STEPS)
        return made_box(self._states, self._starts, [*self._steps, other])

    def __radd__(self, other):
        return self + other

    def __sub__(self, other):
        if other not in self:
            raise InvalidStep(other)
        return made_box(self._states, self._starts, [step for step in self._steps if step != other])

    def __eq__(self, other):
        return (isinstance(other, Box) and self._states == other._states
                and self._starts == other._starts and self._steps == other._steps)

    def __repr__(self):
        return f"Box({self._states}, {self._starts}, {self._steps})"


def check_parts(states, starts, steps):
    """Raise an error unless these are the parts of a box with any number of states and steps."""
    if not is_integer(states) or states < 1:
        raise InvalidStates(states)
    check_starts(states, starts)
    check_steps(states, steps)


def check_limits(states, steps):
    """Raise TooMany if there are more states or steps than a caller may give a box."""
    if states > Box.MOST_STATES:
        raise TooMany("states", Box.MOST_STATES)
    if len(steps) > Box.MOST_STEPS:
        raise TooMany("steps", Box.MOST_STEPS)


def check_starts(states, starts):
    """Raise InvalidStarts unless starts is a list of unlike states, with one at least."""
    if not is_list(starts) or len(starts) == 0:
        raise InvalidStarts(None)
    position = first_wrong(starts, [is_state(states, start) for start in starts])
    if position is not None:
        raise InvalidStarts(position)


def check_steps(states, steps):
    """Raise InvalidSteps unless steps is a list of unlike steps of a box with so many states."""
    if not is_list(steps):
        raise InvalidSteps(None)
    position = first_wrong(steps, [Box.is_step(states, step) for step in steps])
    if position is not None:
        raise InvalidSteps(position)


def check_steps_of(box, steps):
    """Raise InvalidSteps unless steps is a list of unlike steps that the box has."""
    if not is_list(steps):
        raise InvalidSteps(None)
    position = first_wrong(steps, [step in box for step in steps])
    if position is not None:
        raise InvalidSteps(position)


def is_order(states, value):
    """Whether any value is a list of all states of a box with so many, each once."""
    if not is_list(value) or len(value) != states:
        return False
    return first_wrong(value, [is_state(states, state) for state in value]) is None


def ends_of(links):
    """The dict from the states to the lists of the states to which links lead: tuples from one state to the last."""
    ends = {}
    for link in links:
        ends.setdefault(link[0], []).append(link[-1])
    return ends


def reached(ends, states):
    """The sorted list of these states and those to which the ends of the states lead from them."""
    found = {state: True for state in states}
    waiting = list(states)
    while waiting:
        state = waiting.pop()
        for to in ends.get(state, []):
            if to not in found:
                found[to] = True
                waiting.append(to)
    return sorted(found)


def made_box(states, starts, steps):
    """A box of valid parts that the package made; starts and steps that stand twice are one.

    The limits hold for the boxes of callers alone, so the class cannot be given these parts.
    """
    box = Box(1, [0])
    box._states = states
    box._starts = sorted(set(starts))
    box._steps = sorted(set(steps))
    return box


def renumbered(box, kept):
    """The box with just these states, the state kept[k] becoming k.

    All starts are kept, and with a state all those to which its steps lead.
    """
    numbers = {state: number for number, state in enumerate(kept)}
    starts = [numbers[start] for start in box.starts()]
    steps = [
        (numbers[state], call, answer, numbers[to])
        for state, call, answer, to in box.steps()
        if state in numbers
    ]
    return made_box(len(kept), starts, steps)
