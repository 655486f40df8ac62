"""Blocks as tables: what a net shows in a block, and keeps behind it, as sums of multiples."""

from delaynets.errors import InvalidTime
from delaynets.limits import MAX_JOINT
from delaynets.nets import check_net
from delaynets.numbers import Number, is_integer
from delaynets.plans import Plan


def block_tables(net, turn):
    """The tables (A, B, C, D) for blocks of so many time units."""
    check_net(net)
    if not is_integer(turn) or not 1 <= turn <= MAX_JOINT or turn % net.period != 0:
        raise InvalidTime(turn)
    plan = Plan(net)
    width = len(net.inputs) * turn
    no_samples = _unit_row(width, None)
    from_kept = [_block(plan, turn, _unit_row(net.kept, at), no_samples) for at in range(net.kept)]
    from_samples = [_block(plan, turn, _unit_row(net.kept, None), _unit_row(width, at)) for at in range(width)]
    shown = sum([turn * net.rate(name)[0] // net.rate(name)[1] for name in net.outputs])
    return (_table([kept for kept, _ in from_kept], net.kept), _table([kept for kept, _ in from_samples], net.kept),
            _table([row for _, row in from_kept], shown), _table([row for _, row in from_samples], shown))


def _unit_row(width, place):
    """Zeros, with a 1 at the place if there is one."""
    return tuple([Number(1 if at == place else 0) for at in range(width)])


def _block(plan, turn, kept, samples):
    """What is kept behind a block, and what the outputs show in it, one output after the other."""
    pieces = []
    for time in range(turn):
        shown, kept = plan.over_unit(time, samples[time::turn], kept)
        pieces.append(shown)
    return (kept, [sample for at in range(len(pieces[0])) for piece in pieces for sample in piece[at]])


def _table(columns, height):
    """The table with these columns, as a tuple of rows."""
    return tuple([tuple([column[at] for column in columns]) for at in range(height)])
