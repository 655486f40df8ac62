"""The errors: four base classes, and one class for each kind of failure."""


class InputError(ValueError):
    """An argument is not as required."""


class InvalidName(InputError):
    """The value is no name."""

    def __init__(self, value):
        self.value = value


class InvalidText(InputError):
    """The value is not the text of what is to be read."""

    def __init__(self, value):
        self.value = value


class InvalidStep(InputError):
    """The value is no step that is allowed here."""

    def __init__(self, value):
        self.value = value


class InvalidGain(InputError):
    """The value is no number that a signal may be multiplied by."""

    def __init__(self, value):
        self.value = value


class InvalidCount(InputError):
    """The value is no integer that is allowed here."""

    def __init__(self, value):
        self.value = value


class InvalidTime(InputError):
    """The value is no number of time units that is allowed here."""

    def __init__(self, value):
        self.value = value


class InvalidRates(InputError):
    """The value is no tuple of rates."""

    def __init__(self, value):
        self.value = value


class NotANumber(InputError):
    """The value is neither a Number nor an integer."""

    def __init__(self, value):
        self.value = value


class NotASignal(InputError):
    """The value is no expression."""

    def __init__(self, value):
        self.value = value


class NotANet(InputError):
    """The value is no net."""

    def __init__(self, value):
        self.value = value


class NotAPlayer(InputError):
    """The value is no player."""

    def __init__(self, value):
        self.value = value


class InvalidTerms(InputError):
    """A term of a sum, or their number, is wrong."""

    def __init__(self, index):
        self.index = index


class InvalidInputs(InputError):
    """An input, or the number of inputs, is wrong."""

    def __init__(self, index):
        self.index = index


class InvalidOutputs(InputError):
    """An output, or the number of outputs, is wrong."""

    def __init__(self, index):
        self.index = index


class InvalidSamples(InputError):
    """A sample, or the number of samples, is wrong."""

    def __init__(self, index):
        self.index = index


class InvalidSteps(InputError):
    """A step of a machine, or the number of steps, is wrong."""

    def __init__(self, index):
        self.index = index


class InvalidEdit(InputError):
    """A value is no edit."""

    def __init__(self, index):
        self.index = index


class NetError(LookupError):
    """The names and rates of a draft do not make a net."""


class NoOutput(NetError):
    """There is no output."""


class UnknownName(NetError):
    """Nothing has this name."""

    def __init__(self, name):
        self.name = name


class NameTaken(NetError):
    """The name is that of an input."""

    def __init__(self, name):
        self.name = name


class TwoRates(NetError):
    """The definition of this name leaves no rates."""

    def __init__(self, name):
        self.name = name


class NoRate(NetError):
    """The definition of this name leaves several rates."""

    def __init__(self, name):
        self.name = name


class RingWithoutDelay(NetError):
    """Each of these names needs the next one at the same moment."""

    def __init__(self, ring):
        self.ring = ring


class StateError(RuntimeError):
    """What is asked for cannot be done as things stand."""


class NotComparable(StateError):
    """The nets differ in their number of inputs or the rates of their outputs."""


class NothingToUndo(StateError):
    """Nothing has been done that could be taken back."""


class Busy(StateError):
    """The workshop is in the middle of its edits."""


class BrokenDemand(StateError):
    """The net with this name does not meet the demand."""

    def __init__(self, name, demand):
        self.name = name
        self.demand = demand


class DividedByZero(StateError):
    """A number is divided by 0."""


class LimitError(ArithmeticError):
    """A bound is passed."""


class TooMany(LimitError):
    """There are more of them than the limit."""

    def __init__(self, limit):
        self.limit = limit


class TooLarge(LimitError):
    """A period or a rate is greater than the limit."""

    def __init__(self, limit):
        self.limit = limit
