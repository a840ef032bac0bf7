"""The errors of the package. Each keeps what was passed when it was made."""


class BoxError(ValueError):
    """A value that was passed is not valid."""


class InvalidStates(BoxError):
    """This is no number of states."""

    def __init__(self, value):
        self.value = value


class InvalidStarts(BoxError):
    """These are no starts, from this position on."""

    def __init__(self, position):
        self.position = position


class InvalidSteps(BoxError):
    """These are no steps, from this position on."""

    def __init__(self, position):
        self.position = position


class InvalidStep(BoxError):
    """This is no step that can be put or taken."""

    def __init__(self, value):
        self.value = value


class InvalidState(BoxError):
    """This is no state of the box."""

    def __init__(self, value):
        self.value = value


class InvalidOrder(BoxError):
    """This is no list of all states, each once."""

    def __init__(self, value):
        self.value = value


class InvalidSet(BoxError):
    """This is no list of unlike states of the box."""

    def __init__(self, value):
        self.value = value


class InvalidRow(BoxError):
    """This is no row, from this position on."""

    def __init__(self, position):
        self.position = position


class InvalidSign(BoxError):
    """This is no sign."""

    def __init__(self, value):
        self.value = value


class InvalidSigns(BoxError):
    """These are no unlike signs, from this position on."""

    def __init__(self, position):
        self.position = position


class InvalidCall(BoxError):
    """This is no call."""

    def __init__(self, value):
        self.value = value


class InvalidCalls(BoxError):
    """These are no unlike calls, from this position on."""

    def __init__(self, position):
        self.position = position


class InvalidNames(BoxError):
    """This does not name all calls otherwise."""

    def __init__(self, value):
        self.value = value


class InvalidName(BoxError):
    """This is no name."""

    def __init__(self, value):
        self.value = value


class InvalidNumber(BoxError):
    """This number is not one that can be asked for."""

    def __init__(self, value):
        self.value = value


class InvalidKind(BoxError):
    """This is neither of the two kinds."""

    def __init__(self, value):
        self.value = value


class InvalidReading(BoxError):
    """This is none of the four readings."""

    def __init__(self, value):
        self.value = value


class InvalidHidden(BoxError):
    """These are no hidden steps, from this position on."""

    def __init__(self, position):
        self.position = position


class InvalidPairs(BoxError):
    """These are no unlike pairs, from this position on."""

    def __init__(self, position):
        self.position = position


class InvalidMatching(BoxError):
    """This is no matching that fits."""

    def __init__(self, value):
        self.value = value


class InvalidFan(BoxError):
    """This is no fan that fits."""

    def __init__(self, value):
        self.value = value


class InvalidMiddle(BoxError):
    """This is no middle of the kind."""

    def __init__(self, value):
        self.value = value


class InvalidFamily(BoxError):
    """This is no family with a start."""

    def __init__(self, value):
        self.value = value


class InvalidBox(BoxError):
    """This is no box within the limits."""

    def __init__(self, value):
        self.value = value


class InvalidText(BoxError):
    """No text begins with the lines up to this one."""

    def __init__(self, line):
        self.line = line


class InvalidClaim(BoxError):
    """This is no claim."""

    def __init__(self, value):
        self.value = value


class InvalidCommand(BoxError):
    """This is no command."""

    def __init__(self, value):
        self.value = value


class MissingError(LookupError):
    """What was asked for is not there."""


class UnknownStep(MissingError):
    """The box does not have this step."""

    def __init__(self, value):
        self.value = value


class UnknownName(MissingError):
    """No box has this name."""

    def __init__(self, value):
        self.value = value


class StateError(RuntimeError):
    """As things are, this cannot be done."""


class NotMatched(StateError):
    """This pair breaks the rule of the matching, or a pair is lacking."""

    def __init__(self, value):
        self.value = value


class NoMatching(StateError):
    """There is no matching."""


class BrokenFan(StateError):
    """This set of a state breaks the rule of the fan, or a set is lacking."""

    def __init__(self, value):
        self.value = value


class NoFan(StateError):
    """There is no fan of at most this girth."""

    def __init__(self, value):
        self.value = value


class NotStanding(StateError):
    """The one does not stand for the other: this row is missing."""

    def __init__(self, value):
        self.value = value


class TakenAnswer(StateError):
    """A step of the box has this answer already."""

    def __init__(self, value):
        self.value = value


class SharedCall(StateError):
    """Both boxes have this call."""

    def __init__(self, value):
        self.value = value


class NotGiven(StateError):
    """The box does not give the sign at this position."""

    def __init__(self, position):
        self.position = position


class TakenName(StateError):
    """A box has this name already."""

    def __init__(self, value):
        self.value = value


class NothingToUndo(StateError):
    """There is nothing to take back."""


class Untrue(StateError):
    """The claim is not true."""


class CommandFailed(StateError):
    """The command at this position failed."""

    def __init__(self, position):
        self.position = position


class LimitError(ArithmeticError):
    """A limit is passed."""


class TooMany(LimitError):
    """There are more of these than the limit allows."""

    def __init__(self, what, limit):
        self.what = what
        self.limit = limit
