"""Expressions: what a signal is made of."""

from delaynets.errors import InputError, InvalidCount, InvalidGain, InvalidName, InvalidStep
from delaynets.errors import InvalidTerms, InvalidText, LimitError, NotASignal, TooMany
from delaynets.limits import MAX_DEPTH, MAX_GAIN, MAX_PARTS, MAX_STEP, MAX_TERMS
from delaynets.numbers import Number, as_number, is_integer, is_number

LETTERS = "abcdefghijklmnopqrstuvwxyz"
NAME_SIGNS = "abcdefghijklmnopqrstuvwxyz0123456789"
MAX_NAME = 8
MAX_DELAY = 6


def is_name(value):
    """Whether the value is a name."""
    if not isinstance(value, str) or not 1 <= len(value) <= MAX_NAME:
        return False
    return value[0] in LETTERS and all([sign in NAME_SIGNS for sign in value])


def _is_gain(value):
    if not is_number(value):
        return False
    number = as_number(value)
    return abs(number.top) <= MAX_GAIN and number.bottom <= MAX_GAIN


def _is_between(value, least, greatest):
    return is_integer(value) and least <= value <= greatest


def _written(word, arguments):
    """The text of an expression with this word and these arguments."""
    between = ", ".join([str(argument) for argument in arguments])
    return f"{word}({between})"


class Signal:
    """An expression. Each one is an object of a class below."""

    def __init__(self, text, inside, amount):
        parts = 1 + sum([signal.parts for signal in inside])
        depth = 1 + max([signal.depth for signal in inside], default=0)
        if parts > MAX_PARTS:
            raise TooMany(MAX_PARTS)
        if depth > MAX_DEPTH:
            raise TooMany(MAX_DEPTH)
        self._text = text
        self._inside = inside
        self._amount = amount
        self._parts = parts
        self._depth = depth

    @property
    def inside(self):
        """The tuple of the expressions directly inside."""
        return self._inside

    @property
    def amount(self):
        """The number that stands beside the expression inside; None if none does."""
        return self._amount

    @property
    def names(self):
        """The ascending tuple of the names in the expression."""
        # Only a Name is made of nothing else, and its text is the name.
        if not self._inside:
            return (self._text,)
        return tuple(sorted(set([name for signal in self._inside for name in signal.names])))

    @property
    def parts(self):
        """The number of parts."""
        return self._parts

    @property
    def depth(self):
        """The depth."""
        return self._depth

    def __add__(self, other):
        if not isinstance(other, Signal):
            raise NotASignal(other)
        return Sum(self, other)

    def __sub__(self, other):
        return Sum(self, Times(-1, other))

    def __neg__(self):
        return Times(-1, self)

    def __mul__(self, other):
        return Times(other, self)

    def __rshift__(self, other):
        return Late(self, other)

    def __floordiv__(self, other):
        return Every(self, other)

    def __pow__(self, other):
        return Spread(self, other)

    def __eq__(self, other):
        return isinstance(other, Signal) and self._text == other._text

    def __str__(self):
        return str(self._text)

    def __repr__(self):
        return f"Signal({self._text})"


class Name(Signal):
    """The signal with this name."""

    WORD = "name"

    def __init__(self, name):
        if not is_name(name):
            raise InvalidName(name)
        Signal.__init__(self, name, (), None)


class Sum(Signal):
    """The sum of one to five signals."""

    WORD = "sum"

    def __init__(self, *terms):
        if not 1 <= len(terms) <= MAX_TERMS:
            raise InvalidTerms(None)
        for index, term in enumerate(terms):
            if not isinstance(term, Signal):
                raise InvalidTerms(index)
        Signal.__init__(self, _written(self.WORD, terms), terms, None)


class Times(Signal):
    """A signal, multiplied by a number."""

    WORD = "times"

    def __init__(self, number, signal):
        if not _is_gain(number):
            raise InvalidGain(number)
        if not isinstance(signal, Signal):
            raise NotASignal(signal)
        gain = as_number(number)
        Signal.__init__(self, _written(self.WORD, (gain, signal)), (signal,), gain)


class Late(Signal):
    """A signal, moved to later indexes."""

    WORD = "late"

    def __init__(self, signal, count):
        if not isinstance(signal, Signal):
            raise NotASignal(signal)
        if not _is_between(count, 0, MAX_DELAY):
            raise InvalidCount(count)
        Signal.__init__(self, _written(self.WORD, (signal, count)), (signal,), count)


class Every(Signal):
    """Every k-th sample of a signal."""

    WORD = "every"

    def __init__(self, signal, step):
        if not isinstance(signal, Signal):
            raise NotASignal(signal)
        if not _is_between(step, 1, MAX_STEP):
            raise InvalidStep(step)
        Signal.__init__(self, _written(self.WORD, (signal, step)), (signal,), step)


class Spread(Signal):
    """A signal with zeros put between its samples."""

    WORD = "spread"

    def __init__(self, signal, step):
        if not isinstance(signal, Signal):
            raise NotASignal(signal)
        if not _is_between(step, 1, MAX_STEP):
            raise InvalidStep(step)
        Signal.__init__(self, _written(self.WORD, (signal, step)), (signal,), step)


def read_signal(text):
    """The expression with this text."""
    if not isinstance(text, str):
        raise InvalidText(text)
    try:
        signal = _parsed(text, MAX_DEPTH)
    except (InputError, LimitError):
        raise InvalidText(text) from None
    # The sign behind a comma is skipped unseen, so a text that is only nearly right may come this far.
    if str(signal) != text:
        raise InvalidText(text)
    return signal


def _parsed(text, room):
    """The expression that the text stands for, of at most the depth `room`."""
    word, bracket, rest = text.partition("(")
    if not bracket:
        return Name(text)
    if room == 1 or not rest.endswith(")"):
        raise InvalidText(text)
    arguments = _arguments_in(rest.removesuffix(")"))
    if word == Sum.WORD:
        terms = [_parsed(argument, room - 1) for argument in arguments]
        return Sum(*terms)
    if len(arguments) != 2:
        raise InvalidText(text)
    return _pair(word, arguments[0], arguments[1], room - 1)


def _pair(word, first, second, room):
    """The expression with this word and two arguments."""
    if word == Times.WORD:
        return Times(Number.read(first), _parsed(second, room))
    signal = _parsed(first, room)
    number = Number.read(second)
    if number.bottom != 1:
        raise InvalidText(second)
    if word == Late.WORD:
        return Late(signal, number.top)
    if word == Every.WORD:
        return Every(signal, number.top)
    if word == Spread.WORD:
        return Spread(signal, number.top)
    raise InvalidText(word)


def _arguments_in(text):
    """The arguments in a text that stands between two brackets."""
    arguments = []
    start = 0
    level = 0
    for at, sign in enumerate(text):
        if sign == "(":
            level += 1
        elif sign == ")":
            level -= 1
        elif sign == "," and level == 0:
            arguments.append(text[start:at])
            start = at + 2
    arguments.append(text[start:])
    return arguments
