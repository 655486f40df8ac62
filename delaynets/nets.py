"""Drafts, and the nets that are made of them."""

from math import lcm

from delaynets.errors import InputError, InvalidInputs, InvalidName, InvalidOutputs, InvalidText, NameTaken
from delaynets.errors import NetError, NoOutput, NotANet, NotASignal, TooLarge, TooMany, UnknownName
from delaynets.limits import MAX_DEFINITIONS, MAX_KEPT, MAX_PERIOD, MAX_RATE
from delaynets.rates import factors_in, rates_inside, rates_of
from delaynets.rings import in_order
from delaynets.signals import Late, Name, Signal, is_name, read_signal

MAX_NAMES = 3
INPUT_WORD = "input "
OUTPUT_WORD = "output "
BETWEEN = " = "


class Draft:
    """Inputs, definitions and outputs, from which a net may be made."""

    def __init__(self, *inputs):
        if not 1 <= len(inputs) <= MAX_NAMES:
            raise InvalidInputs(None)
        right = _count_right(inputs)
        if right < len(inputs):
            raise InvalidInputs(right)
        self._inputs = inputs
        self._definitions = {}
        self._outputs = ()

    @property
    def inputs(self):
        """The tuple of the inputs."""
        return self._inputs

    @property
    def outputs(self):
        """The tuple of the outputs."""
        return self._outputs

    def show(self, *names):
        """Take these names as the outputs from now on."""
        if not 1 <= len(names) <= MAX_NAMES:
            raise InvalidOutputs(None)
        right = _count_right(names)
        if right < len(names):
            raise InvalidOutputs(right)
        self._outputs = names

    def made(self):
        """The net that the draft describes now."""
        definitions = {name: self._definitions[name] for name in sorted(self._definitions)}
        return Net(self._inputs, definitions, self._outputs)

    def __setitem__(self, at, worth):
        if not is_name(at):
            raise InvalidName(at)
        if at in self._inputs:
            raise NameTaken(at)
        if not isinstance(worth, Signal):
            raise NotASignal(worth)
        self._definitions[at] = worth

    def __getitem__(self, at):
        return Name(at)

    def __iter__(self):
        raise TypeError("a draft cannot be iterated over")

    def __contains__(self, x):
        return is_name(x) and x in self._definitions

    def __len__(self):
        return len(self._definitions)


class Net:
    """A net: all that is used is known, no ring lacks a delay, and each rate is fixed."""

    def __init__(self, inputs, definitions, outputs):
        _check_names(inputs, definitions, outputs)
        in_order(definitions)
        rates = rates_of(inputs, definitions)
        inner = rates_inside(definitions, rates)
        kept = _kept_in(definitions)
        period = _period_of(inner)
        _check_limits(len(definitions), kept, period, inner)
        self._inputs = inputs
        self._definitions = definitions
        self._outputs = outputs
        self._rates = rates
        self._kept = kept
        self._period = period
        self._text = _text_of(inputs, definitions, outputs)

    @staticmethod
    def read(text):
        """The net with this text."""
        if not isinstance(text, str):
            raise InvalidText(text)
        try:
            draft = _draft_in(text)
        except (InputError, NetError):
            raise InvalidText(text) from None
        return draft.made()

    @property
    def inputs(self):
        """The tuple of the inputs."""
        return self._inputs

    @property
    def outputs(self):
        """The tuple of the outputs."""
        return self._outputs

    @property
    def names(self):
        """The ascending tuple of the inputs and the defined names."""
        return tuple(sorted(list(self._rates)))

    @property
    def period(self):
        """The number of time units in a block."""
        return self._period

    @property
    def kept(self):
        """The number of kept samples."""
        return self._kept

    def rate(self, name):
        """The rate of a name, a pair in lowest terms."""
        if not is_name(name) or name not in self._rates:
            raise UnknownName(name)
        return (self._rates[name].top, self._rates[name].bottom)

    def definition(self, name):
        """The expression that a name stands for."""
        if not is_name(name) or name not in self._definitions:
            raise UnknownName(name)
        return self._definitions[name]

    def __eq__(self, other):
        return isinstance(other, Net) and self._text == other._text

    def __str__(self):
        return str(self._text)

    def __repr__(self):
        return f"Net({len(self._inputs)} inputs, {len(self._definitions)} definitions, {len(self._outputs)} outputs)"


def check_net(value):
    """Refuse what is no net."""
    if not isinstance(value, Net):
        raise NotANet(value)


def _count_right(names):
    """How many of the values, from the first one on, are names that did not come before."""
    for at, name in enumerate(names):
        if not is_name(name) or name in names[:at]:
            return at
    return len(names)


def _check_names(inputs, definitions, outputs):
    if not outputs:
        raise NoOutput()
    used = [name for signal in definitions.values() for name in signal.names]
    unknown = [name for name in [*used, *outputs] if name not in definitions and name not in inputs]
    if unknown:
        raise UnknownName(min(unknown))


def _kept_in(definitions):
    parts = [part for signal in definitions.values() for part, _ in factors_in(signal)]
    return sum([part.amount for part in parts if isinstance(part, Late)])


def _period_of(rates):
    # The inputs, which are not among these, have the rate 1.
    period = 1
    for rate in rates:
        period = lcm(period, rate.bottom)
    return period


def _check_limits(many, kept, period, rates):
    if many > MAX_DEFINITIONS:
        raise TooMany(MAX_DEFINITIONS)
    if kept > MAX_KEPT:
        raise TooMany(MAX_KEPT)
    if period > MAX_PERIOD:
        raise TooLarge(MAX_PERIOD)
    if any([rate.top > MAX_RATE for rate in rates]):
        raise TooLarge(MAX_RATE)


def _text_of(inputs, definitions, outputs):
    lines = [f"{INPUT_WORD}{name}" for name in inputs]
    lines.extend([f"{name}{BETWEEN}{str(definitions[name])}" for name in sorted(definitions)])
    lines.extend([f"{OUTPUT_WORD}{name}" for name in outputs])
    return "\n".join(lines)


def _draft_in(text):
    """The draft with this text."""
    inputs = []
    rows = []
    outputs = []
    for line in text.split("\n"):
        name, between, definition = line.partition(BETWEEN)
        if between:
            rows.append((name, definition))
        elif line.startswith(OUTPUT_WORD):
            outputs.append(line.removeprefix(OUTPUT_WORD))
        else:
            inputs.append(line.removeprefix(INPUT_WORD))
    draft = Draft(*inputs)
    for name, definition in rows:
        draft[name] = read_signal(definition)
    draft.show(*outputs)
    # Lines at wrong places, missing words and doubled definitions went unseen so far.
    if _text_of(draft.inputs, draft._definitions, draft.outputs) != text:
        raise InvalidText(text)
    return draft
