"""Tests of errors: what is raised, and what the error keeps."""

import unittest

from tests.values import told


def first(generator):
    """What a generator gives first."""
    return next(generator)


class Refusals(unittest.TestCase):
    def refuse(self, error, values, deed, *given, **named):
        """The deed with what is given is refused with just this error, whose attributes have these values."""
        with self.subTest(given=told(given), named=told(named)):
            with self.assertRaises(error) as caught:
                deed(*given, **named)
            self.assertIs(type(caught.exception), error)
            kept = list(vars(caught.exception).values())
            self.assertEqual(len(kept), len(values))
            for value, wanted in zip(kept, values):
                self.assertTrue(value is wanted or (type(value) is type(wanted) and value == wanted))
