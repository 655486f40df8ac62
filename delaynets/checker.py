"""Whether a certificate shows a claim to be true."""

from math import lcm

from delaynets.claims import MAX_CLAIMED, MAX_INDEX, MAX_LATE, MAX_LENGTH, NoClaim, read_count, read_machine, read_net
from delaynets.claims import read_none, read_number, read_place, read_rows, read_sums, read_texts, read_tuple
from delaynets.errors import NotComparable, TooLarge
from delaynets.joint import joint_machine, joint_nets, joint_period, joint_teller
from delaynets.limits import MAX_JOINT
from delaynets.numbers import Number
from delaynets.pivots import are_pivots_positive, change_over_turn, lead_over_turn
from delaynets.runs import Player
from delaynets.singles import answer_forms, gaps_after
from delaynets.tables import Span, over_one, table_of
from delaynets.ticks import shown_rates, ticks_per_unit

UNIT_RATE = (1, 1)


def _is_alike(claim, certificate):
    one, other, turn = _two_nets(claim)
    sums = read_sums(certificate, one.kept + other.kept)
    return joint_nets(one, other, turn).is_shown_by(sums)


def _is_parted(claim, certificate):
    one, other, _ = _two_nets(claim)
    if len(read_tuple(claim[3])) != 4:
        raise NoClaim()
    past = read_place(claim[3][:2], len(one.inputs))
    future = read_place(claim[3][2:], len(one.outputs))
    read_none(certificate)
    left = answer_forms(one, [past], [future])[0]
    right = answer_forms(other, [past], [future])[0]
    return left.share(0) != right.share(0)


def _is_kept_at_least(claim, certificate):
    net = read_net(claim[1])
    tick = read_count(claim[2], MAX_INDEX)
    many = read_count(claim[3], MAX_CLAIMED)
    if len(read_tuple(certificate)) != 2:
        raise NoClaim()
    pasts = [read_place(place, len(net.inputs)) for place in read_tuple(certificate[0])]
    futures = [read_place(place, len(net.outputs)) for place in read_tuple(certificate[1])]
    if len(pasts) != many or len(futures) != many:
        raise NoClaim()
    rates = shown_rates(net)
    per_unit = ticks_per_unit(rates)
    if any([index * per_unit >= tick for _, index in pasts]):
        return False
    if any([index * rates[output][1] * per_unit < tick * rates[output][0] for output, index in futures]):
        return False
    span = Span(many)
    return all([span.takes(over_one(form.shares(0, many))[0]) for form in answer_forms(net, pasts, futures)])


def _is_made_by(claim, certificate):
    net = read_net(claim[1])
    return _makes(net, _machine_for(net, claim[2]), certificate)


def _is_settling(claim, certificate):
    net = read_net(claim[1])
    machine = _machine_for(net, claim[2])
    if len(read_tuple(certificate)) != 2:
        raise NoClaim()
    size = machine.sizes[0]
    rows = read_rows(certificate[1], size)
    if len(rows) != size or any([rows[at][to] != rows[to][at] for at in range(size) for to in range(at)]):
        raise NoClaim()
    square = table_of(rows, size)
    change = change_over_turn(lead_over_turn(machine), square)
    return are_pivots_positive(square) and are_pivots_positive(change) and _makes(net, machine, certificate[0])


def _is_ending(claim, certificate):
    net = read_net(claim[1])
    length = read_number(claim[2])
    read_none(certificate)
    if length.sign < 0:
        raise NoClaim()
    # What has not ended after as many blocks as there are kept samples, and one more, never ends; and if an output
    # is 0 for so many blocks without inputs, then for ever.
    enough = net.period * (net.kept + 2)
    bound = length if (length - enough).sign < 0 else Number(enough)
    until = net.period + bound.top // bound.bottom + 1 + enough
    return all([(gap - bound).sign <= 0 for gap in gaps_after(net, until)])


def _is_told_back(claim, certificate):
    net = read_net(claim[1])
    delay = read_count(claim[2], MAX_LATE)
    teller = read_machine(claim[3])
    if teller.input_rates != shown_rates(net) or teller.output_rates != (UNIT_RATE,) * len(net.inputs):
        raise NoClaim()
    turn = _turn_for(net, teller)
    sums = read_sums(certificate, net.kept + teller.sizes[0] + delay * len(net.inputs))
    return joint_teller(net, teller, delay, turn).is_shown_by(sums)


def _is_lost(claim, certificate):
    net = read_net(claim[1])
    rows = read_texts(claim[2])
    read_none(certificate)
    if len(rows) != len(net.inputs) or any([len(row) != len(rows[0]) for row in rows]) or len(rows[0]) > MAX_LENGTH:
        raise NoClaim()
    if all([number.sign == 0 for row in rows for number in row]):
        raise NoClaim()
    player = Player(net)
    zeros = [(0,) * len(net.inputs)] * (net.period * (net.kept + 1))
    for samples in list(zip(*rows)) + zeros:
        if any([number.sign != 0 for row in player.feed(*samples) for number in row]):
            return False
    return True


def _two_nets(claim):
    """The two nets of a claim, and their joint period."""
    one = read_net(claim[1])
    other = read_net(claim[2])
    try:
        return one, other, joint_period(one, other)
    except (NotComparable, TooLarge):
        raise NoClaim() from None


def _machine_for(net, value):
    """The machine in a claim, which is to have the rates of the net."""
    machine = read_machine(value)
    if machine.input_rates != (UNIT_RATE,) * len(net.inputs) or machine.output_rates != shown_rates(net):
        raise NoClaim()
    return machine


def _turn_for(net, machine):
    turn = lcm(net.period, machine.turn)
    if turn > MAX_JOINT:
        raise NoClaim()
    return turn


def _makes(net, machine, certificate):
    """Whether these zero sums show that the machine gives what the net gives."""
    turn = _turn_for(net, machine)
    sums = read_sums(certificate, net.kept + machine.sizes[0])
    return joint_machine(net, machine, turn).is_shown_by(sums)


CHECKS = {
    "alike": _is_alike,
    "parted": _is_parted,
    "kept at least": _is_kept_at_least,
    "made by": _is_made_by,
    "settles": _is_settling,
    "ends": _is_ending,
    "told back": _is_told_back,
    "lost": _is_lost,
}
LENGTHS = {
    "alike": 3,
    "parted": 4,
    "kept at least": 4,
    "made by": 3,
    "settles": 3,
    "ends": 3,
    "told back": 4,
    "lost": 3,
}


def holds(claim, certificate):
    """Whether the certificate has the form, and meets the conditions, that the claim asks for."""
    if not isinstance(claim, tuple) or not claim or not isinstance(claim[0], str):
        return False
    if claim[0] not in CHECKS or len(claim) != LENGTHS[claim[0]]:
        return False
    check = CHECKS[claim[0]]
    try:
        return check(claim, certificate)
    except NoClaim:
        return False
