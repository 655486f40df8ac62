"""Exact fractions."""

from math import gcd

from delaynets.errors import DividedByZero, InvalidCount, InvalidText, NotANumber

MAX_POWER = 20


def is_integer(value):
    """Whether the value is an int other than True and False."""
    return isinstance(value, int) and not isinstance(value, bool)


def is_number(value):
    """Whether the value may be passed where a number is asked for."""
    return isinstance(value, Number) or is_integer(value)


def as_number(value):
    """The Number that a Number or an integer stands for."""
    if isinstance(value, Number):
        return value
    if is_integer(value):
        return Number(value)
    raise NotANumber(value)


class Number:
    """A fraction in lowest terms, its denominator from 1 on."""

    def __init__(self, top, bottom=1):
        if not is_integer(top):
            raise InvalidCount(top)
        if not is_integer(bottom):
            raise InvalidCount(bottom)
        if bottom == 0:
            raise DividedByZero()
        shared = gcd(top, bottom)
        if bottom < 0:
            shared = -shared
        self._top = top // shared
        self._bottom = bottom // shared

    @staticmethod
    def read(text):
        """The number with this text."""
        if not isinstance(text, str):
            raise InvalidText(text)
        number = _number_in(text)
        # Many strings stand for a number, but only one is its text.
        if number is None or str(number) != text:
            raise InvalidText(text)
        return number

    @property
    def top(self):
        """The numerator."""
        return self._top

    @property
    def bottom(self):
        """The denominator."""
        return self._bottom

    @property
    def sign(self):
        """-1, 0 or 1."""
        if self._top == 0:
            return 0
        return 1 if self._top > 0 else -1

    def over(self, other):
        """The quotient of this number and the other one."""
        divisor = as_number(other)
        if divisor.sign == 0:
            raise DividedByZero()
        return Number(self._top * divisor.bottom, self._bottom * divisor.top)

    def __add__(self, other):
        right = as_number(other)
        return Number(self._top * right.bottom + right.top * self._bottom, self._bottom * right.bottom)

    def __radd__(self, other):
        return as_number(other) + self

    def __sub__(self, other):
        right = as_number(other)
        return Number(self._top * right.bottom - right.top * self._bottom, self._bottom * right.bottom)

    def __rsub__(self, other):
        return as_number(other) - self

    def __mul__(self, other):
        right = as_number(other)
        return Number(self._top * right.top, self._bottom * right.bottom)

    def __rmul__(self, other):
        return as_number(other) * self

    def __neg__(self):
        return Number(-self._top, self._bottom)

    def __abs__(self):
        return Number(abs(self._top), self._bottom)

    def __pow__(self, other):
        if not is_integer(other) or not 0 <= other <= MAX_POWER:
            raise InvalidCount(other)
        power = Number(1)
        for _ in range(other):
            power = power * self
        return power

    def __eq__(self, other):
        return isinstance(other, Number) and self._top == other._top and self._bottom == other._bottom

    def __str__(self):
        if self._bottom == 1:
            return str(self._top)
        return f"{self._top}/{self._bottom}"

    def __repr__(self):
        return f"Number({str(self)})"


def _number_in(text):
    """The number that the text stands for, in lowest terms or not; None if there is none."""
    top, slash, bottom = text.partition("/")
    if not slash:
        bottom = "1"
    if not _is_digits(top.removeprefix("-")) or not _is_digits(bottom):
        return None
    if int(bottom) == 0:
        return None
    return Number(int(top), int(bottom))


def _is_digits(text):
    # Without isascii, digits of other scripts would pass for numbers.
    return text.isascii() and text.isdigit()
