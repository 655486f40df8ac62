"""Blocks as tables: what a net shows in a block, and keeps behind it, as sums of multiples."""

from delaynets.errors import InvalidTime
from delaynets.forms import nothing, units
from delaynets.limits import MAX_JOINT
from delaynets.nets import check_net
from delaynets.numbers import is_integer
from delaynets.plans import Plan


def block_tables(net, turn):
    """The tables (A, B, C, D) for blocks of so many time units."""
    check_net(net)
    if not is_integer(turn) or not 1 <= turn <= MAX_JOINT or turn % net.period != 0:
        raise InvalidTime(turn)
    behind = net.kept + len(net.inputs) * turn
    shown, ends = over_block(net, turn, units(0, net.kept), input_forms(net, turn, net.kept))
    samples = [sample for row in shown for sample in row]
    return (_table(ends, 0, net.kept), _table(ends, net.kept, behind),
            _table(samples, 0, net.kept), _table(samples, net.kept, behind))


def input_forms(net, turn, first):
    """The samples of each input in a block as variables, numbered from one on."""
    return [units(first + turn * at, first + turn * (at + 1)) for at in range(len(net.inputs))]


def over_block(net, turn, kept, samples):
    """What each output shows in a block, and what is kept behind it; all these are forms."""
    plan = Plan(net, nothing(), 1)
    shown = [[] for _ in net.outputs]
    for time in range(turn):
        rows, kept = plan.over_piece(time, [row[time] for row in samples], kept)
        for line, row in zip(shown, rows):
            line.extend(row)
    return shown, kept


def _table(forms, first, behind):
    """The multiples of these variables in each form, as a tuple of rows."""
    return tuple([tuple(form.shares(first, behind)) for form in forms])
