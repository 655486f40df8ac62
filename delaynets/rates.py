"""The rates of names and of the expressions in their definitions."""

from delaynets.errors import NoRate, TwoRates
from delaynets.numbers import Number
from delaynets.signals import Every, Name, Spread

# No name is empty, so this can stand for what has the rate 1.
UNIT = ""


class Ties:
    """Names, tied together as soon as the rate of one tells the rate of the other."""

    def __init__(self, names):
        self._leaders = {name: name for name in names}
        self._shares = {name: Number(1) for name in names}

    def tie(self, name, other, factor):
        """Give the other name `factor` times the rate of the name; False if that contradicts the ties before."""
        leader = self._leaders[name]
        behind = self._leaders[other]
        share = self._shares[name] * factor
        if leader == behind:
            return self._shares[other] == share
        change = share.over(self._shares[other])
        moved = [member for member in self._leaders if self._leaders[member] == behind]
        for member in moved:
            self._leaders[member] = leader
            self._shares[member] = self._shares[member] * change
        return True

    def is_tied(self, name, other):
        """Whether the rate of one tells the rate of the other."""
        return self._leaders[name] == self._leaders[other]

    def quotient(self, name, other):
        """The rate of the name, divided by that of the other one, which is tied to it."""
        return self._shares[name].over(self._shares[other])


def factors_in(signal):
    """Each part of an expression, the whole first, with its rate divided by that of the whole."""
    found = [(signal, Number(1))]
    factor = _factor_inside(signal)
    for inner in signal.inside:
        for part, times in factors_in(inner):
            found.append((part, factor * times))
    return found


def _factor_inside(signal):
    if isinstance(signal, Every):
        return Number(signal.amount)
    if isinstance(signal, Spread):
        return Number(1, signal.amount)
    return Number(1)


def rates_of(inputs, definitions):
    """The rate of each name, a Number."""
    ties = Ties([UNIT, *inputs, *definitions])
    for name in inputs:
        ties.tie(UNIT, name, Number(1))
    for name in sorted(definitions):
        for part, factor in factors_in(definitions[name]):
            if isinstance(part, Name) and not ties.tie(name, str(part), factor):
                raise TwoRates(name)
    rates = {}
    for name in sorted([*inputs, *definitions]):
        # An expression inside shares its open rate with the name that it helps to define.
        if not ties.is_tied(name, UNIT):
            raise NoRate(name)
        rates[name] = ties.quotient(name, UNIT)
    return rates


def rates_inside(definitions, rates):
    """The rates of all parts of the definitions, those of the names being known."""
    return [rates[name] * factor for name in definitions for _, factor in factors_in(definitions[name])]
