"""The section "Errors": every class, its family, its attributes."""

import unittest

from aheadbehind import errors
from tests.values import MOST_DIGITS, EqualToAll, nested, told, unlike_values

FAMILIES = {
    "BoxError": (ValueError, """
        InvalidStates(value) InvalidStarts(position) InvalidSteps(position) InvalidStep(value) InvalidState(value)
        InvalidOrder(value) InvalidSet(value) InvalidRow(position) InvalidSign(value) InvalidSigns(position)
        InvalidCall(value) InvalidCalls(position) InvalidNames(value) InvalidName(value) InvalidNumber(value)
        InvalidKind(value) InvalidReading(value) InvalidHidden(position) InvalidPairs(position)
        InvalidMatching(value) InvalidFan(value) InvalidMiddle(value) InvalidFamily(value) InvalidBox(value)
        InvalidText(line) InvalidClaim(value) InvalidCommand(value)
    """),
    "MissingError": (LookupError, "UnknownStep(value) UnknownName(value)"),
    "StateError": (RuntimeError, """
        NotMatched(value) NoMatching() BrokenFan(value) NoFan(value) NotStanding(value) TakenAnswer(value)
        SharedCall(value) NotGiven(position) TakenName(value) NothingToUndo() Untrue() CommandFailed(position)
    """),
    "LimitError": (ArithmeticError, "TooMany(what,limit)"),
}


def listed():
    """A tuple (class, class in front of it, names of the attributes) for each class with parameters listed."""
    rows = []
    for family, (_, text) in FAMILIES.items():
        for word in text.split():
            name, _, rest = word.partition("(")
            rows.append((getattr(errors, name), getattr(errors, family), rest.strip(")").replace(",", " ").split()))
    return rows


class TestFamilies(unittest.TestCase):
    def test_there_are_just_these_classes(self):
        names = set(FAMILIES) | {kind.__name__ for kind, _, _ in listed()}
        defined = {name for name, value in vars(errors).items() if isinstance(value, type)}
        self.assertEqual(defined, names)
        self.assertEqual(len(listed()), 27 + 2 + 12 + 1)

    def test_each_class_is_defined_in_the_file(self):
        for name in list(FAMILIES) + [kind.__name__ for kind, _, _ in listed()]:
            self.assertEqual(getattr(errors, name).__module__, "aheadbehind.errors")
            self.assertEqual(getattr(errors, name).__name__, name)

    def test_the_families_are_direct_subclasses_of_errors_of_python(self):
        for name, (base, _) in FAMILIES.items():
            self.assertEqual(getattr(errors, name).__bases__, (base,), name)

    def test_each_class_is_the_direct_subclass_of_its_family_alone(self):
        for kind, family, _ in listed():
            self.assertEqual(kind.__bases__, (family,), kind.__name__)

    def test_each_error_is_caught_by_its_family(self):
        for kind, family, names in listed():
            for caught in (kind, family, family.__bases__[0]):
                with self.subTest(kind=kind.__name__, caught=caught.__name__), self.assertRaises(caught):
                    raise kind(*names)


class TestAttributes(unittest.TestCase):
    def check(self, error, names, values):
        self.assertEqual(sorted(vars(error)), sorted(names))
        for name, value in zip(names, values):
            self.assertIs(getattr(error, name), value)

    def test_made_by_position_and_by_name_with_values_of_unlike_kinds(self):
        for kind, _, names in listed():
            for value in unlike_values():
                values = [value, nested(8)][:len(names)]
                with self.subTest(kind=kind.__name__, value=told(value)):
                    self.check(kind(*values), names, values)
                    self.check(kind(**dict(zip(names, values))), names, values)

    def test_the_two_of_too_many_in_any_sequence_of_names(self):
        for first in unlike_values():
            for second in (None, 6, True, [first], MOST_DIGITS, EqualToAll()):
                self.check(errors.TooMany(first, second), ["what", "limit"], [first, second])
                self.check(errors.TooMany(limit=second, what=first), ["what", "limit"], [first, second])
                self.check(errors.TooMany(first, limit=second), ["what", "limit"], [first, second])

    def test_other_numbers_of_parameters_are_refused(self):
        for kind, _, names in listed():
            if names:
                for values in ([], [1] * (len(names) + 1)):
                    with self.subTest(kind=kind.__name__), self.assertRaises(TypeError):
                        kind(*values)
                with self.assertRaises(TypeError):
                    kind(other=1)

    def test_those_without_attributes(self):
        for kind in (errors.NoMatching, errors.NothingToUndo, errors.Untrue):
            self.assertEqual(vars(kind()), {})

    def test_what_is_kept_is_not_changed(self):
        value = [1, [2], {"a": [3]}]
        errors.InvalidClaim(value)
        self.assertEqual(value, [1, [2], {"a": [3]}])
