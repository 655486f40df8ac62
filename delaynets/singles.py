"""What the outputs of a net show after single 1s, all in one run."""

from delaynets.forms import Form, nothing
from delaynets.numbers import Number
from delaynets.plans import Plan


def shown_after(net, singles, begin, until):
    """The samples of each output at the times from `begin` on, before `until`, as forms.

    The singles are pairs (input, index); the variable of each one is its number. `begin` is a multiple of the
    period, and no single is before it.
    """
    plan = Plan(net, nothing(), 1)
    kept = plan.start()
    shown = [[] for _ in net.outputs]
    for time in range(begin, until):
        samples = [_sample(singles, (source, time)) for source in range(len(net.inputs))]
        rows, kept = plan.over_piece(time, samples, kept)
        for line, row in zip(shown, rows):
            line.extend(row)
    return shown


def _sample(singles, place):
    return Form({variable: Number(1) for variable, single in enumerate(singles) if single == place})


def answer_forms(net, pasts, futures):
    """For each future, a pair (output, index), the form of its answers to the pasts, pairs (input, index)."""
    rates = [net.rate(name) for name in net.outputs]
    first = min([index for _, index in pasts], default=0)
    begin = first - first % net.period
    until = 1 + max([index * rates[output][1] // rates[output][0] for output, index in futures], default=0)
    shown = shown_after(net, pasts, begin, until)
    forms = []
    for output, index in futures:
        at = index - begin * rates[output][0] // rates[output][1]
        forms.append(shown[output][at] if at >= 0 else nothing())
    return forms


def gaps_after(net, until):
    """The times that output samples other than 0, before the time `until`, are behind the single 1 that they answer.

    The single 1s are those of the first block.
    """
    singles = [(source, index) for source in range(len(net.inputs)) for index in range(net.period)]
    gaps = []
    for name, line in zip(net.outputs, shown_after(net, singles, 0, until)):
        top, bottom = net.rate(name)
        for at, form in enumerate(line):
            gaps.extend([Number(at * bottom, top) - singles[variable][1] for variable in form.variables()])
    return gaps
