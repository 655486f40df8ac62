"""What several test files share."""

import unittest

from delaynets.numbers import Number
from delaynets.signals import Late, Name, Sum


class Stranger:
    """A value of a class that the package does not know."""


def plain_values():
    """Values of many kinds, none of them an integer, a Number or an expression."""
    return [
        None, True, False, "", "1", "x", "1/2", "sum(x)", "x\n", b"", b"1", (), (1,), (True,), [], [1],
        {}, {"a": 1}, {1}, range(3), ((1,), [2]), object(), Stranger(), Stranger, int, len, lambda value: value,
        ..., ValueError("x"), Number, Name,
    ]


def signal_values():
    """A few expressions."""
    return [Name("x"), Sum(Name("x"), Name("y")), Late(Name("x"), 2)]


def number_values():
    """A few Numbers."""
    return [Number(0), Number(1), Number(-3, 4)]


class PromiseTest(unittest.TestCase):
    def fails(self, kind, call, **fields):
        """Check that the call raises just this error, with these fields."""
        try:
            result = call()
        except Exception as error:
            caught = error
        else:
            self.fail(f"{kind.__name__} expected, {result!r} returned")
        self.assertIs(caught.__class__, kind, f"{caught!r}")
        for name, value in fields.items():
            self.same(getattr(caught, name), value)

    def same(self, got, value):
        """Check that both are the same object, or equal ints or strings of the very class."""
        self.assertIs(got.__class__, value.__class__)
        if value.__class__ in (int, str):
            self.assertEqual(got, value)
        else:
            self.assertIs(got, value)

    def unequal(self, one, other):
        """Check that two values differ, whichever stands on the left."""
        self.assertIs(one == other, False)
        self.assertIs(other == one, False)
        self.assertIs(one != other, True)
        self.assertIs(other != one, True)

    def equal(self, one, other):
        """Check that two values are equal, whichever stands on the left."""
        self.assertIs(one == other, True)
        self.assertIs(other == one, True)
        self.assertIs(one != other, False)
        self.assertIs(other != one, False)
