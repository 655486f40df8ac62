"""What happens at the ticks of a turn, as tables: for nets and for steps of machines."""

from math import lcm

from delaynets.forms import nothing, units
from delaynets.plans import Plan
from delaynets.tables import Table, table_of, unit_row


class Tick:
    """What is kept behind a tick and written at it.

    The columns of both tables are the numbers kept before it, then the samples read at it.
    """

    def __init__(self, size, moves, writes):
        self._size = size
        self._moves = moves
        self._writes = writes
        self._idle = moves.width() == size and writes.height() == 0 and _is_unit(moves)

    def size(self):
        """How many numbers are kept before it."""
        return self._size

    def reads(self):
        """How many samples are read."""
        return self._moves.width() - self._size

    def moves(self):
        """The table for what is kept behind it."""
        return self._moves

    def writes(self):
        """The table for what is written."""
        return self._writes

    def is_idle(self):
        """Whether nothing is read, written or changed."""
        return self._idle


def _is_unit(table):
    size = table.width()
    if table.height() != size or table.scale() != 1:
        return False
    return all([row == unit_row(size, at) for at, row in enumerate(table.rows())])


def ticks_per_unit(rates):
    """How many ticks a time unit has, so that samples of all these rates stand at ticks."""
    ticks = 1
    for top, _ in rates:
        ticks = lcm(ticks, top)
    return ticks


def shown_rates(net):
    """The rates of the outputs."""
    return tuple([net.rate(name) for name in net.outputs])


def ticks_of_net(net):
    """The ticks of a period; what is kept are the kept samples."""
    kept, many = net.kept, len(net.inputs)
    per_unit = ticks_per_unit(shown_rates(net))
    plan = Plan(net, nothing(), per_unit)
    idle = Tick(kept, Table([unit_row(kept, at) for at in range(kept)], kept, 1), Table([], kept, 1))
    ticks = []
    for number in range(net.period * per_unit):
        is_read = number % per_unit == 0
        if plan.is_idle(number) and not is_read:
            ticks.append(idle)
            continue
        samples = units(kept, kept + many) if is_read else []
        shown, ends = plan.over_piece(number, samples, units(0, kept))
        width = kept + len(samples)
        writes = [form.shares(0, width) for row in shown for form in row]
        moves = [form.shares(0, width) for form in ends]
        ticks.append(Tick(kept, table_of(moves, width), table_of(writes, width)))
    return ticks


def ticks_of_machine(machine):
    """The ticks of the turn of a machine."""
    ticks = []
    for size, step, reads in zip(machine.sizes, machine.steps, machine.reads()):
        lead, take, show, give = step
        moves = [[*one, *other] for one, other in zip(lead, take)]
        writes = [[*one, *other] for one, other in zip(show, give)]
        ticks.append(Tick(size, table_of(moves, size + reads), table_of(writes, size + reads)))
    return ticks
