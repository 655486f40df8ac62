"""By which times a net keeps time, and which outputs are late copies of inputs."""

from delaynets.alike import alike
from delaynets.errors import InvalidCount, InvalidTime
from delaynets.limits import MAX_JOINT
from delaynets.nets import Draft, check_net
from delaynets.numbers import is_integer
from delaynets.reduced import normal_steps
from delaynets.runs import Player
from delaynets.signals import MAX_DELAY
from delaynets.ticks import shown_rates, ticks_per_unit

COPY = "copy"


def keeps_time(net, count):
    """Whether delaying all inputs by so many time units delays the outputs by as many."""
    check_net(net)
    if not is_integer(count) or not 1 <= count <= MAX_JOINT:
        raise InvalidTime(count)
    return count % least_shift(net) == 0


def least_shift(net):
    """The least time by which the net keeps time."""
    check_net(net)
    return len(normal_steps(net)) // ticks_per_unit(shown_rates(net))


def copy_of(net, output, source):
    """By how many samples the output is later than the input with the number `source`; None if it is no copy."""
    check_net(net)
    if not is_integer(output) or not 0 <= output < len(net.outputs):
        raise InvalidCount(output)
    if not is_integer(source) or not 0 <= source < len(net.inputs):
        raise InvalidCount(source)
    if shown_rates(net)[output] != (1, 1):
        return None
    delay = _first_shown(net, output, source)
    if delay is None or not alike(_with_output(net, output), _late_input(len(net.inputs), source, delay)):
        return None
    return delay


def _first_shown(net, output, source):
    """When a single 1 at the time 0 is first seen, if that is not too late for a copy."""
    player = Player(net)
    # A copy that is late by n samples needs n kept samples.
    for time in range(net.kept + 1):
        samples = [1 if at == source and time == 0 else 0 for at in range(len(net.inputs))]
        shown = player.feed(*samples)
        if shown[output][0].sign != 0:
            return time
    return None


def _with_output(net, output):
    """The net with this output alone."""
    inputs = net.inputs
    draft = Draft(*inputs)
    for name in net.names:
        if name not in inputs:
            draft[name] = net.definition(name)
    draft.show(net.outputs[output])
    return draft.made()


def _late_input(many, source, delay):
    """A net with so many inputs whose output is one of them, late by some samples."""
    names = [f"x{at}" for at in range(many)]
    draft = Draft(*names)
    signal = draft[names[source]]
    while delay > MAX_DELAY:
        signal = signal >> MAX_DELAY
        delay -= MAX_DELAY
    draft[COPY] = signal >> delay
    draft.show(COPY)
    return draft.made()
