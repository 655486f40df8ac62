"""Claims, with certificates that the checker accepts."""

from delaynets.alike import difference
from delaynets.claims import MAX_INDEX, MAX_LATE, MAX_SIZE, MAX_STEPS, written_machine, written_rows
from delaynets.endings import ends, length_of
from delaynets.errors import InvalidCount
from delaynets.joint import joint_machine, joint_nets, joint_period, joint_teller
from delaynets.machines import due_at, normal_machine
from delaynets.nets import check_net
from delaynets.numbers import Number, is_integer
from delaynets.pivots import lead_over_turn, steady
from delaynets.tables import Span, Table, unit_row
from delaynets.telling import lost_input, teller, told_back
from delaynets.ticks import shown_rates, ticks_of_machine, ticks_per_unit

MAX_TICK = 100


def certify_alike(one, other):
    """That the nets are alike, or what parts them; None if that is too late for a claim."""
    sums = joint_nets(one, other, joint_period(one, other)).zero_sums()
    if sums is not None:
        return (("alike", str(one), str(other)), _as_numbers(sums))
    found = difference(one, other)
    if max(found) > MAX_INDEX:
        return None
    return (("parted", str(one), str(other), found), ())


def certify_kept(net, tick):
    """That as many numbers are needed before a tick as the normal machine keeps; None if it cannot be shown."""
    check_net(net)
    if not is_integer(tick) or not 0 <= tick <= MAX_TICK:
        raise InvalidCount(tick)
    ticks = ticks_of_machine(normal_machine(net))
    for at in range(tick, MAX_INDEX + 1, len(ticks)):
        size = ticks[at % len(ticks)].size()
        pasts = _pasts(net, ticks, at)
        futures = _futures(net, ticks, at)
        if len(pasts) == size and len(futures) == size:
            return (("kept at least", str(net), at, size), (tuple(pasts), tuple(futures)))
    return None


def certify_machine(net):
    """That the normal machine gives what the net gives; None if it has too many steps for a claim."""
    machine = normal_machine(net)
    if len(machine.steps) > MAX_STEPS:
        return None
    return (("made by", str(net), written_machine(machine)), _sums_of(net, machine))


def certify_settles(net):
    """That the net settles; None if it does not, or if its normal machine has too many steps for a claim."""
    machine = normal_machine(net)
    rows = steady(lead_over_turn(machine))
    if rows is None or len(machine.steps) > MAX_STEPS:
        return None
    square = tuple([tuple(row) for row in rows])
    return (("settles", str(net), written_machine(machine)), (_sums_of(net, machine), square))


def certify_ends(net):
    """That the net ends, with its length; None if it does not."""
    if not ends(net):
        return None
    length = length_of(net)
    return (("ends", str(net), "0" if length is None else str(length)), ())


def certify_told(net):
    """That the inputs are told back, or what is lost; None if the delay or the teller is too large for a claim."""
    delay = told_back(net)
    if delay is None:
        return (("lost", str(net), written_rows(lost_input(net))), ())
    machine = teller(net)
    if delay > MAX_LATE or len(machine.steps) > MAX_STEPS or max(machine.sizes) > MAX_SIZE:
        return None
    sums = joint_teller(net, machine, delay, net.period).zero_sums()
    return (("told back", str(net), delay, written_machine(machine)), _as_numbers(sums))


def _sums_of(net, machine):
    """The zero sums that show that the machine, which has its turn in the period, gives what the net gives."""
    return _as_numbers(joint_machine(net, machine, net.period).zero_sums())


def _as_numbers(rows):
    return tuple([tuple([Number(entry) for entry in row]) for row in rows])


def _pasts(net, ticks, at):
    """Samples (input, index) before a tick that make up all that may be kept before it, the latest ones first."""
    size = ticks[at % len(ticks)].size()
    per_unit = ticks_per_unit(shown_rates(net))
    span = Span(size)
    lead = _unit_table(size)
    pasts = []
    for back in range(at - 1, -1, -1):
        tick = ticks[back % len(ticks)]
        led = lead.after(tick.moves())
        for source in range(tick.reads()):
            if span.takes(led.column(tick.size() + source)):
                pasts.append((source, back // per_unit))
        lead = led.part(0, tick.size())
    return pasts


def _futures(net, ticks, at):
    """Samples (output, index) from a tick on, within the bounds of claims, that tell what is kept before it."""
    size = ticks[at % len(ticks)].size()
    rates = shown_rates(net)
    per_unit = ticks_per_unit(rates)
    span = Span(size)
    lead = _unit_table(size)
    futures = []
    # What one output tells in as many turns as there are numbers is all that it ever tells.
    for then in range(at, at + len(ticks) * size):
        tick = ticks[then % len(ticks)]
        shown = tick.writes().part(0, tick.size()).after(lead)
        for output, row in zip(due_at(rates, per_unit, then), shown.rows()):
            index = then * rates[output][0] // (per_unit * rates[output][1])
            if index <= MAX_INDEX and span.takes(row):
                futures.append((output, index))
        lead = tick.moves().part(0, tick.size()).after(lead)
    return futures


def _unit_table(size):
    return Table([unit_row(size, at) for at in range(size)], size, 1)
