"""Whether the answers of a net end, or come below every bound."""

from delaynets.machines import normal_machine
from delaynets.pivots import lead_over_turn, steady
from delaynets.singles import gaps_after


def ends(net):
    """Whether all answers to single 1s are 0 from some time after them on."""
    lead = lead_over_turn(normal_machine(net))
    power = lead
    for _ in range(lead.width()):
        power = power.after(lead)
    return not any([any(row) for row in power.rows()])


def length_of(net):
    """The longest time from a single 1 to a sample other than 0; None if there is none, or no longest one."""
    if not ends(net):
        return None
    # Each block that an answer goes on for needs one more kept sample.
    gaps = gaps_after(net, net.period * (net.kept + 2))
    longest = None
    for gap in gaps:
        if longest is None or (gap - longest).sign > 0:
            longest = gap
    return longest


def settles(net):
    """Whether the free answers of all finite inputs come below every bound."""
    return steady(lead_over_turn(normal_machine(net))) is not None
