"""Whether two nets always give the same outputs, and what parts them if they do not."""

from delaynets.errors import InvalidInputs, InvalidOutputs
from delaynets.joint import joint_nets, joint_period
from delaynets.numbers import is_integer
from delaynets.tables import Span
from delaynets.ticks import shown_rates, ticks_per_unit


def alike(one, other):
    """Whether all outputs are equal, for all inputs."""
    return joint_nets(one, other, joint_period(one, other)).zero_sums() is not None


def difference(one, other):
    """The earliest difference (input, index, output, index); None if the nets are alike."""
    turn = joint_period(one, other)
    joint = joint_nets(one, other, turn)
    if joint.zero_sums() is not None:
        return None
    classes = _output_classes(one, turn)
    order = _by_time(shown_rates(one), classes)
    pasts = [joint.begun(number) for number in range(turn * len(one.inputs))]
    differences = [joint.at_once(number) for number in range(turn * len(one.inputs))]
    block = 0
    while True:
        for place in order:
            for number, column in enumerate(differences):
                if column[place] != 0:
                    output, at = classes[place]
                    return (number // turn, number % turn, output, block * _size(classes, output) + at)
        differences = [joint.shown(past) for past in pasts]
        pasts = [joint.led(past) for past in pasts]
        block += 1


def parted_classes(one, other):
    """The ascending tuple of the (input, class, output, class) that are parted."""
    turn = joint_period(one, other)
    joint = joint_nets(one, other, turn)
    classes = _output_classes(one, turn)
    found = []
    for source, at in _input_classes(one, turn):
        parted = _parted(joint, source * turn + at)
        found.extend([(source, at, *classes[place]) for place in range(len(classes)) if parted[place]])
    return tuple(found)


def alike_on(one, other, inputs, outputs):
    """Whether the outputs agree in these classes, for all inputs that are 0 outside of those classes."""
    turn = joint_period(one, other)
    sources = _input_classes(one, turn)
    classes = _output_classes(one, turn)
    wrong_inputs = _first_outside(inputs, sources)
    if wrong_inputs:
        raise InvalidInputs(wrong_inputs[0])
    wrong_outputs = _first_outside(outputs, classes)
    if wrong_outputs:
        raise InvalidOutputs(wrong_outputs[0])
    joint = joint_nets(one, other, turn)
    places = [place for place, shown in enumerate(classes) if shown in outputs]
    for number, source in enumerate(sources):
        if source in inputs:
            parted = _parted(joint, number)
            if any([parted[place] for place in places]):
                return False
    return True


def _input_classes(net, turn):
    """All pairs (input, class), ascending."""
    return [(source, at) for source in range(len(net.inputs)) for at in range(turn)]


def _output_classes(net, turn):
    """All pairs (output, class), ascending."""
    return [(output, at) for output, (top, bottom) in enumerate(shown_rates(net))
            for at in range(turn * top // bottom)]


def _size(classes, output):
    """How many samples of an output there are in a block."""
    return len([at for number, at in classes if number == output])


def _by_time(rates, classes):
    """The places of the classes, the earlier samples first, and at one time the outputs in their order."""
    per_unit = ticks_per_unit(rates)
    rows = [(at * per_unit * rates[output][1] // rates[output][0], place) for place, (output, at) in enumerate(classes)]
    return [place for _, place in sorted(rows)]


def _parted(joint, number):
    """For each class of outputs whether the sample of the inputs with this number ever parts the nets there."""
    columns = [joint.at_once(number)]
    span = Span(joint.many())
    past = joint.begun(number)
    while span.takes(past):
        columns.append(joint.shown(past))
        past = joint.led(past)
    return [any(row) for row in zip(*columns)]


def _first_outside(value, pairs):
    """An empty tuple, or a tuple with the index of the first element that is none of the pairs."""
    if not isinstance(value, tuple):
        return (None,)
    for index, pair in enumerate(value):
        if not _is_pair(pair) or pair not in pairs:
            return (index,)
    return ()


def _is_pair(value):
    return isinstance(value, tuple) and len(value) == 2 and all([is_integer(part) for part in value])
