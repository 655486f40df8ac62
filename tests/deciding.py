"""Answers to single 1s, reckoned straight from the definitions, and what can be told from tables of them."""

import math
from fractions import Fraction
from functools import lru_cache

from tests.reckoning import net_in

PRIME = 2 ** 61 - 1


class Answers:
    """What a net answers to single 1s."""

    def __init__(self, text):
        self.net = net_in(text)
        rates = self.net.rates()
        self.rates = [rates[name] for name in self.net.outputs]
        self.many = len(self.net.inputs)
        self.period = self.net.period()
        self.kept = self.net.kept()
        self.per_unit = math.lcm(*[rate.numerator for rate in self.rates])
        self.bases = {}

    def rows(self, source, index, until):
        """The samples of the outputs at the times below `until`, if this input has a single 1 at the index."""
        back = index // self.period * self.period
        base = self.base(source, index - back, max(until - back, 1))
        return [[Fraction(0)] * int(rate * back) + row[:math.ceil(rate * max(until - back, 0))]
                for rate, row in zip(self.rates, base)]

    def base(self, source, index, until):
        known, rows = self.bases.get((source, index), (0, None))
        if known < until:
            samples = [tuple(int((number, at) == (source, index)) for at in range(until)) for number in range(self.many)]
            known, rows = until, [list(row) for row in self.net.run(*samples)]
            self.bases[source, index] = (known, rows)
        return rows


@lru_cache(maxsize=None)
def answers_of(text):
    return Answers(text)


def joint_period(one, other):
    return math.lcm(one.period, other.period)


def differing(one, other):
    """All differences (time, output, index, input, index) after single 1s of the first joint block, long enough."""
    turn = joint_period(one, other)
    until = turn * (one.kept + other.kept + 2)
    found = []
    for source in range(one.many):
        for at in range(turn):
            pairs = zip(one.rows(source, at, until), other.rows(source, at, until))
            for output, (row, line) in enumerate(pairs):
                found += [(index / one.rates[output], output, index, source, at)
                          for index, (left, right) in enumerate(zip(row, line)) if left != right]
    return found


def earliest(one, other):
    """The earliest difference, or None."""
    found = differing(one, other)
    if not found:
        return None
    _, output, index, source, at = min(found)
    return (source, at, output, index)


def parted(one, other):
    """The classes that are parted."""
    turn = joint_period(one, other)
    return tuple(sorted({(source, at, output, int(index % (turn * one.rates[output])))
                         for _, output, index, source, at in differing(one, other)}))


def keeps_time(one, count):
    """Whether delaying by so many time units changes nothing else."""
    if any((count * rate).denominator != 1 for rate in one.rates):
        return False
    until = one.period * (one.kept + 2) + one.period
    for source in range(one.many):
        for at in range(one.period):
            rows = one.rows(source, at, until)
            later = one.rows(source, at + count, until + count)
            for rate, row, line in zip(one.rates, rows, later):
                if [Fraction(0)] * int(rate * count) + row != line:
                    return False
    return True


def least_shift(one):
    return min(count for count in range(1, one.period + 1) if keeps_time(one, count))


def futures(one, tick, until):
    """The output samples at this tick or later, before the time `until`, by time and output, as (output, index)."""
    found = []
    for output, rate in enumerate(one.rates):
        first = math.ceil(Fraction(tick, one.per_unit) * rate)
        found += [(index / rate, output, index) for index in range(first, math.ceil(until * rate))]
    return [(output, index) for _, output, index in sorted(found)]


def table(one, tick, rows, columns, until):
    """The answers of output samples to single 1s."""
    lines = [one.rows(source, index, until) for source, index in columns]
    return [[line[output][index] for line in lines] for output, index in rows]


def kept_samples(one, tick, turn):
    """The output samples (output, index) that are the kept numbers of a tick, seen from a tick of the same kind later.

    Also returns that tick.
    """
    blocks = -(-one.period * (one.kept + 1) // turn)
    late = tick + one.per_unit * turn * blocks
    until = late // one.per_unit + one.period * (one.kept + 1) + 1
    columns = [(source, index) for source in range(one.many) for index in range(-(-late // one.per_unit))]
    rows = futures(one, late, until)
    chosen = independent(table(one, late, rows, columns, until))
    return late, [rows[at] for at in chosen]


def independent(rows):
    """The numbers of the rows that are no sums of multiples of those before, by remainders of a prime."""
    held, chosen = [], []
    for number, row in enumerate(rows):
        rest = [entry.numerator * pow(entry.denominator, -1, PRIME) % PRIME for entry in row]
        for place, other in held:
            if rest[place]:
                factor = rest[place]
                rest = [(left - factor * right) % PRIME for left, right in zip(rest, other)]
        place = next((at for at, entry in enumerate(rest) if entry), None)
        if place is not None:
            inverse = pow(rest[place], -1, PRIME)
            held.append((place, [entry * inverse % PRIME for entry in rest]))
            chosen.append(number)
    return chosen


def walk(machine, until, rows, kept=None):
    """The samples that a machine shows at the times below `until`, and what it keeps before each tick, as Fractions."""
    ratios = [Fraction(*rate) for rate in machine.input_rates]
    shown_ratios = [Fraction(*rate) for rate in machine.output_rates]
    per_unit = math.lcm(*[rate.numerator for rate in ratios + shown_ratios])
    kept = kept or [Fraction(0)] * machine.sizes[0]
    shown, states = [[] for _ in shown_ratios], []
    for tick in range(until * per_unit):
        states.append(kept)
        moment = Fraction(tick, per_unit)
        read = [row[int(moment * rate)] for row, rate in zip(rows, ratios) if (moment * rate).denominator == 1]
        due = [at for at, rate in enumerate(shown_ratios) if (moment * rate).denominator == 1]
        lead, take, show, give = [[[Fraction(n.top, n.bottom) for n in row] for row in part]
                                  for part in machine.steps[tick % len(machine.steps)]]
        written = [dot(one, kept) + dot(other, read) for one, other in zip(show, give)]
        assert len(written) == len(due) and all(len(row) == len(read) for row in take + give)
        for at, sample in zip(due, written):
            shown[at].append(sample)
        kept = [dot(one, kept) + dot(other, read) for one, other in zip(lead, take)]
    states.append(kept)
    return shown, states


def dot(row, column):
    assert len(row) == len(column)
    return sum((one * other for one, other in zip(row, column)), Fraction(0))
