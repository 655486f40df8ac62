"""Machines, which keep some numbers from tick to tick, and the normal machine of a net."""

from math import gcd, lcm

from delaynets.errors import InvalidCount, InvalidInputs, InvalidRates, InvalidSteps
from delaynets.nets import check_net
from delaynets.numbers import Number, as_number, is_integer, is_number
from delaynets.reduced import normal_steps
from delaynets.ticks import shown_rates, ticks_per_unit

MAX_MACHINE_RATE = 12
MAX_ROWS = 6
TABLES = 4


class Machine:
    """Steps (F, G, H, D), done one after the other at the ticks."""

    def __init__(self, input_rates, output_rates, steps):
        if not _are_rates(input_rates):
            raise InvalidRates(input_rates)
        if not _are_rates(output_rates):
            raise InvalidRates(output_rates)
        rates = input_rates + output_rates
        self._per_unit = ticks_per_unit(rates)
        if not isinstance(steps, tuple) or not _is_turn(len(steps), self._per_unit, rates):
            raise InvalidSteps(None)
        for index, step in enumerate(steps):
            if not _is_step(step):
                raise InvalidSteps(index)
        self._input_rates = input_rates
        self._output_rates = output_rates
        self._sizes = tuple([len(steps[at - 1][0]) for at in range(len(steps))])
        self._reads = [len(due_at(input_rates, self._per_unit, tick)) for tick in range(len(steps))]
        for index, step in enumerate(steps):
            written = len(due_at(output_rates, self._per_unit, index))
            if not _fits(step, self._sizes[index], self._reads[index], written):
                raise InvalidSteps(index)
        self._steps = tuple([tuple([_with_numbers(table) for table in step]) for step in steps])

    @property
    def input_rates(self):
        """The tuple of the rates of the inputs."""
        return self._input_rates

    @property
    def output_rates(self):
        """The tuple of the rates of the outputs."""
        return self._output_rates

    @property
    def steps(self):
        """The tuple of the steps, with tables of Numbers."""
        return self._steps

    @property
    def turn(self):
        """How many time units the steps take."""
        return len(self._steps) // self._per_unit

    @property
    def sizes(self):
        """The tuple of how many numbers are kept before each step."""
        return self._sizes

    def reads(self):
        """How many samples each step reads."""
        return list(self._reads)

    def run(self, until, *inputs):
        """What the outputs show at the times below `until`."""
        if not is_integer(until) or until < 0:
            raise InvalidCount(until)
        if len(inputs) != len(self._input_rates):
            raise InvalidInputs(None)
        for index, row in enumerate(inputs):
            if not isinstance(row, tuple) or len(row) != samples_below(self._input_rates[index], until):
                raise InvalidInputs(index)
            if not all([is_number(sample) for sample in row]):
                raise InvalidInputs(index)
        rows = [[as_number(sample) for sample in row] for row in inputs]
        shown, _ = walked(self, until, rows, [Number(0)] * self._sizes[0], Number(0))
        return tuple([tuple(row) for row in shown])

    def __eq__(self, other):
        return (isinstance(other, Machine) and self._input_rates == other._input_rates
                and self._output_rates == other._output_rates and self._steps == other._steps)

    def __repr__(self):
        return f"Machine({len(self._steps)} steps, at most {max(self._sizes)} numbers)"


def normal_machine(net):
    """The one machine of the behaviour of a net that keeps the fewest numbers."""
    check_net(net)
    return Machine(((1, 1),) * len(net.inputs), shown_rates(net), normal_steps(net))


def kept_numbers(net):
    """How many numbers the normal machine keeps before each step."""
    return normal_machine(net).sizes


def due_at(rates, per_unit, tick):
    """The numbers of those signals that have a sample at a tick."""
    return [at for at, (top, bottom) in enumerate(rates) if tick * top % (per_unit * bottom) == 0]


def samples_below(rate, until):
    """How many samples a signal with this rate has at the times below `until`."""
    top, bottom = rate
    return -(-until * top // bottom)


def walked(machine, until, rows, kept, zero):
    """What the outputs show at the times below `until`, and what is kept then.

    Samples and kept numbers may be of any class whose objects can be added, and multiplied by a Number.
    """
    per_unit = ticks_per_unit(machine.input_rates + machine.output_rates)
    shown = [[] for _ in machine.output_rates]
    for tick in range(until * per_unit):
        read = [rows[at][tick * machine.input_rates[at][0] // (per_unit * machine.input_rates[at][1])]
                for at in due_at(machine.input_rates, per_unit, tick)]
        lead, take, show, give = machine.steps[tick % len(machine.steps)]
        for at, one, other in zip(due_at(machine.output_rates, per_unit, tick), show, give):
            shown[at].append(_summed(one, kept, _summed(other, read, zero)))
        kept = [_summed(one, kept, _summed(other, read, zero)) for one, other in zip(lead, take)]
    return shown, kept


def _summed(row, values, total):
    """The total, and the values with their multiples."""
    for number, value in zip(row, values):
        if number.sign != 0:
            total = total + value * number
    return total


def _are_rates(value):
    return isinstance(value, tuple) and 1 <= len(value) <= MAX_ROWS and all([_is_rate(rate) for rate in value])


def _is_rate(value):
    if not isinstance(value, tuple) or len(value) != 2 or not all([is_integer(part) for part in value]):
        return False
    return all([1 <= part <= MAX_MACHINE_RATE for part in value]) and gcd(value[0], value[1]) == 1


def _is_turn(many, per_unit, rates):
    shortest = 1
    for _, bottom in rates:
        shortest = lcm(shortest, bottom)
    return many > 0 and many % (per_unit * shortest) == 0


def _is_step(value):
    return isinstance(value, tuple) and len(value) == TABLES and all([_is_table(table) for table in value])


def _is_table(value):
    return isinstance(value, tuple) and all([_is_row(row) for row in value])


def _is_row(value):
    return isinstance(value, tuple) and all([is_number(number) for number in value])


def _fits(step, size, reads, written):
    """Whether the tables have the rows and columns that are due."""
    lead, take, show, give = step
    if len(take) != len(lead) or len(show) != written or len(give) != written:
        return False
    return all([len(row) == size for row in lead + show]) and all([len(row) == reads for row in take + give])


def _with_numbers(table):
    return tuple([tuple([as_number(number) for number in row]) for row in table])
