"""How the samples of a net are worked out, one moment after the other.

A time unit has as many moments, evenly spread, as it takes that each sample of each expression
stands at one of them. What a net keeps from one moment to the next are its kept samples.
"""

from math import lcm

from delaynets.numbers import Number
from delaynets.rates import factors_in
from delaynets.rings import in_order
from delaynets.signals import Every, Late, Name, Spread, Times


class Part:
    """An expression at its place in the definitions of a net."""

    def __init__(self, signal, gap, place, zero):
        self._signal = signal
        self._gap = gap
        self._place = place
        self._zero = zero
        self._many = signal.amount if isinstance(signal, Late) else 0
        self._inner = []
        self._behind = place + self._many
        for inside in signal.inside:
            part = Part(inside, _gap_inside(signal, gap), self._behind, zero)
            self._inner.append(part)
            self._behind = part.behind()

    def behind(self):
        """The number of kept samples up to the end of this part, in the order of the text."""
        return self._behind

    def keepers(self):
        """The parts in this one that keep samples, in the order of the text."""
        own = [self] if self._many > 0 else []
        return own + [part for inside in self._inner for part in inside.keepers()]

    def many(self):
        """How many samples it keeps itself."""
        return self._many

    def is_due(self, moment):
        """Whether it has a sample at this moment."""
        return moment % self._gap == 0

    def sample(self, moment, values, kept):
        """Its sample at a moment at which it is due, with the samples of the names at this moment."""
        if isinstance(self._signal, Name):
            return values[str(self._signal)]
        if self._many > 0:
            return kept[self._place + self._many - 1]
        if isinstance(self._signal, Spread) and not self._inner[0].is_due(moment):
            return self._zero
        total = self._inner[0].sample(moment, values, kept)
        for inside in self._inner[1:]:
            total = total + inside.sample(moment, values, kept)
        return total * self._signal.amount if isinstance(self._signal, Times) else total

    def held(self, moment, values, kept):
        """What it keeps behind a moment, with what was kept before it."""
        before = kept[self._place:self._place + self._many]
        if not self.is_due(moment):
            return before
        return (self._inner[0].sample(moment, values, kept), *before[:-1])


class Plan:
    """What is due at each moment of a block of a net, in an order in which it can be worked out.

    Samples may be of any class whose objects can be added, and multiplied by a Number, `zero` being its zero.
    Each time unit is cut into as many pieces, evenly, as `cuts` says.
    """

    def __init__(self, net, zero, cuts):
        self._inputs = net.inputs
        self._outputs = net.outputs
        self._zero = zero
        definitions = {name: net.definition(name) for name in net.names if name not in net.inputs}
        moments = _moments_of(net, definitions)
        self._gaps = {name: moments * net.rate(name)[1] // net.rate(name)[0] for name in net.names}
        self._wholes = _wholes_of(definitions, self._gaps, zero)
        self._keepers = [part for whole in self._wholes.values() for part in whole.keepers()]
        order = in_order(definitions)
        length = moments // cuts
        self._pieces = [self._piece(order, at * length, length) for at in range(net.period * cuts)]

    def _piece(self, order, start, length):
        """The moments of a piece with the names that are worked out then, without those that have none."""
        piece = []
        for moment in range(start, start + length):
            due = [name for name in order if moment % self._gaps[name] == 0]
            shown = [name for name in self._outputs if moment % self._gaps[name] == 0]
            if due or shown or any([part.is_due(moment) for part in self._keepers]):
                piece.append((moment, due, shown))
        return piece

    def start(self):
        """What is kept in the beginning."""
        return tuple([self._zero for part in self._keepers for _ in range(part.many())])

    def is_idle(self, number):
        """Whether nothing happens in the piece with this number."""
        return not self._pieces[number]

    def over_piece(self, number, samples, kept):
        """What the outputs show in a piece, and what is kept behind it.

        The samples are those of the inputs at the beginning of the piece, if they have any there.
        """
        values = dict(zip(self._inputs, samples))
        rows = {name: [] for name in self._outputs}
        for moment, due, shown in self._pieces[number % len(self._pieces)]:
            for name in due:
                values[name] = self._wholes[name].sample(moment, values, kept)
            for name in shown:
                rows[name].append(values[name])
            held = [part.held(moment, values, kept) for part in self._keepers]
            kept = tuple([sample for row in held for sample in row])
        return (tuple([tuple(rows[name]) for name in self._outputs]), kept)


def _gap_inside(signal, gap):
    """The moments from one sample to the next of the expressions inside."""
    if isinstance(signal, Every):
        return gap // signal.amount
    if isinstance(signal, Spread):
        return gap * signal.amount
    return gap


def _moments_of(net, definitions):
    """How many moments a time unit has."""
    moments = 1
    for name in definitions:
        top, bottom = net.rate(name)
        for _, factor in factors_in(definitions[name]):
            moments = lcm(moments, (factor * Number(top, bottom)).top)
    return moments


def _wholes_of(definitions, gaps, zero):
    """The whole of each definition as a part."""
    wholes = {}
    place = 0
    # The kept samples are numbered in the order of the text, in which the names ascend.
    for name in sorted(definitions):
        wholes[name] = Part(definitions[name], gaps[name], place, zero)
        place = wholes[name].behind()
    return wholes
