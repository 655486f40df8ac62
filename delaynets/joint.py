"""Two sides that are fed with the same inputs: how their outputs differ in a block, and what both keep behind it.

A zero sum is a row of multiples of what both keep at the beginning of a block. Rows are said to make up others
by sums of multiples.
"""

from math import lcm

from delaynets.blocks import input_forms, over_block
from delaynets.errors import NotComparable, TooLarge
from delaynets.forms import nothing, units
from delaynets.limits import MAX_JOINT
from delaynets.machines import walked
from delaynets.nets import check_net
from delaynets.numbers import Number
from delaynets.tables import Span, dot, shortened, table_of
from delaynets.ticks import shown_rates


class Joint:
    """The differences of all output samples in a block, and what is kept behind it, as tables.

    The columns are what is kept at the beginning, then the samples of the inputs.
    """

    def __init__(self, kept, behind, ends, differences):
        self._kept = kept
        self._ends = table_of([form.shares(0, behind) for form in ends], behind)
        self._differences = table_of([form.shares(0, behind) for form in differences], behind)

    def many(self):
        """How many numbers both keep."""
        return self._kept

    def at_once(self, number):
        """A multiple of the differences in a block in which the input sample with this number is the only one."""
        return self._differences.column(self._kept + number)

    def begun(self, number):
        """A multiple of what is kept behind such a block."""
        return shortened(self._ends.column(self._kept + number))

    def shown(self, past):
        """A multiple of the differences in a block without inputs before which this is kept."""
        return [dot(row, past) for row in self._differences.rows()]

    def led(self, past):
        """A multiple of what is kept behind such a block."""
        return shortened([dot(row, past) for row in self._ends.rows()])

    def zero_sums(self):
        """Rows that make up all sums that have to stay 0 for the outputs to be equal, or None if they are not."""
        span = Span(self._kept)
        waiting = self._differences.rows()
        while waiting:
            found = []
            for row in waiting:
                if any(row[self._kept:]):
                    return None
                if span.takes(row[:self._kept]):
                    found.append(self._ends.led(row))
            waiting = found
        return span.basis()

    def is_shown_by(self, sums):
        """Whether these zero sums, rows of integers, make up the differences and what becomes of them in the block."""
        span = Span(self._kept)
        for row in sums:
            span.takes(row)
        rows = self._differences.rows() + [self._ends.led(row) for row in sums]
        return all([not any(row[self._kept:]) and span.covers(row[:self._kept]) for row in rows])


def check_comparable(one, other):
    """Refuse what are no nets, or none that can be compared."""
    check_net(one)
    check_net(other)
    if len(one.inputs) != len(other.inputs) or shown_rates(one) != shown_rates(other):
        raise NotComparable()


def joint_period(one, other):
    """The joint period of two nets."""
    check_comparable(one, other)
    period = lcm(one.period, other.period)
    if period > MAX_JOINT:
        raise TooLarge(MAX_JOINT)
    return period


def joint_nets(one, other, turn):
    """Two comparable nets, their outputs held against each other."""
    kept = one.kept + other.kept
    samples = input_forms(one, turn, kept)
    shown, ends = over_block(one, turn, units(0, one.kept), samples)
    opposed, other_ends = over_block(other, turn, units(one.kept, kept), samples)
    return Joint(kept, kept + turn * len(one.inputs), list(ends) + list(other_ends), _differences(shown, opposed))


def joint_machine(net, machine, turn):
    """A net and a machine with its rates, their outputs held against each other."""
    kept = net.kept + machine.sizes[0]
    samples = input_forms(net, turn, kept)
    shown, ends = over_block(net, turn, units(0, net.kept), samples)
    opposed, other_ends = walked(machine, turn, samples, units(net.kept, kept), nothing())
    return Joint(kept, kept + turn * len(net.inputs), list(ends) + list(other_ends), _differences(shown, opposed))


def joint_teller(net, teller, delay, turn):
    """A net and a teller that is fed with its outputs; what this one writes is held against the inputs, made late."""
    past = net.kept + teller.sizes[0]
    many = len(net.inputs)
    kept = past + delay * many
    samples = input_forms(net, turn, kept)
    shown, ends = over_block(net, turn, units(0, net.kept), samples)
    told, other_ends = walked(teller, turn, shown, units(net.kept, past), nothing())
    # The last samples are kept with the latest one first.
    lines = [units(past + delay * at, past + delay * (at + 1))[::-1] + samples[at] for at in range(many)]
    lasts = [form for line in lines for form in line[turn:][::-1]]
    late = [line[:turn] for line in lines]
    return Joint(kept, kept + turn * many, list(ends) + list(other_ends) + lasts, _differences(told, late))


def _differences(rows, others):
    """One row of forms for each output less the other one, one output after the other."""
    less = Number(-1)
    return [form + other * less for row, line in zip(rows, others) for form, other in zip(row, line)]
