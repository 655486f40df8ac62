"""Telling the inputs of a net from its outputs."""

from math import lcm

from delaynets.blind import entered, moved, silent
from delaynets.machines import Machine, normal_machine
from delaynets.numbers import Number
from delaynets.reduced import reduced
from delaynets.tables import Span, Table, dot, unit_row
from delaynets.ticks import Tick, shown_rates, ticks_of_machine

UNIT_RATE = (1, 1)


def told_back(net):
    """The least delay with which the inputs are told back; None if they are not."""
    machine = normal_machine(net)
    ticks = ticks_of_machine(machine)
    delays = [_delay_from(ticks, start) for start in range(0, len(ticks), len(ticks) // machine.turn)]
    return None if None in delays else max(delays)


def lost_input(net):
    """Inputs, not all 0, that leave all outputs at 0; None if the inputs are told back."""
    if told_back(net) is not None:
        return None
    ticks = ticks_of_machine(normal_machine(net))
    many = len(net.inputs)
    rows = []
    looked_at = 0
    at = 0
    while True:
        tick = ticks[at % len(ticks)]
        quiet, _ = silent(entered(rows, tick, looked_at), tick)
        looked_at += tick.reads()
        rows, lost = _parted([moved(row, tick) for row in quiet], looked_at)
        if lost:
            return tuple([tuple([Number(sample) for sample in lost[source::many]]) for source in range(many)])
        at += 1


def _delay_from(ticks, start):
    """The least delay with which the inputs of the time of one tick are told; None if an input is lost.

    If any inputs from then on leave the outputs at 0, then some of them do so that have an end.
    """
    many = ticks[start].reads()
    rows = []
    looked_at = 0
    at = start
    delay = 0
    while True:
        tick = ticks[at % len(ticks)]
        quiet, _ = silent(entered(rows, tick, looked_at), tick)
        rows = [moved(row, tick) for row in quiet]
        looked_at += tick.reads()
        if tick.reads() > 0:
            if not any([any(row[len(row) - looked_at:][:many]) for row in rows]):
                return delay
            delay += 1
        rows, lost = _parted(rows, looked_at)
        if lost:
            return None
        at += 1


def _parted(rows, looked_at):
    """Rows for the same inputs, none of which keep what others together keep; or inputs that keep nothing."""
    span = Span(len(rows[0]) - looked_at if rows else 0)
    for row in rows:
        if not span.takes(row):
            return [], span.rest(row)[len(row) - looked_at:]
    return span.basis(), []


def teller(net):
    """A machine that tells the inputs back with the least delay; None if they are not told back."""
    delay = told_back(net)
    if delay is None:
        return None
    ticks = ticks_of_machine(normal_machine(net))
    waiting = delay * len(net.inputs)
    rows = []
    before = -1
    # From one turn to the next nothing is lost, so as many rows stand for the same inputs.
    while before != len(rows):
        before = len(rows)
        for tick in ticks:
            rows = _guessed(silent(entered(rows, tick, waiting), tick)[0], tick)
    tellers = []
    for tick in ticks:
        quiet, gains = silent(entered(rows, tick, waiting), tick)
        tellers.append(_telling(tick, gains, waiting))
        rows = _guessed(quiet, tick)
    return Machine(shown_rates(net), (UNIT_RATE,) * len(net.inputs), reduced(tellers))


def _guessed(rows, tick):
    """The rows behind a tick, without the oldest samples, which are told at it."""
    size = tick.moves().height()
    found = [moved(row, tick) for row in rows]
    return [row[:size] + row[size + tick.reads():] for row in found]


def _telling(tick, gains, waiting):
    """The tick of a teller that keeps a guess: what the machine keeps, and the samples that wait to be told.

    It compares what the guess would write with what is written, and puts it right by rows that make up the
    difference. What is then left open are inputs that have left the outputs at 0.
    """
    size, reads = tick.size(), tick.reads()
    width = size + waiting
    right = _put_right(tick, gains, waiting)
    scale = tick.moves().scale()
    kept = [row + [0] * waiting for row in tick.moves().rows()]
    order = list(range(size + reads, width + reads)) + list(range(size, size + reads))
    picked = [unit_row(width + reads, at) for at in order]
    later = [[scale * entry for entry in row] for row in picked[reads:]]
    moves = Table(kept + later, width + reads, scale).after(right)
    return Tick(width, moves, Table(picked[:reads], width + reads, 1).after(right))


def _put_right(tick, gains, waiting):
    """The table for a guess that is put right; its columns are the guess before, and what is written."""
    size, behind = tick.size(), tick.size() + tick.reads()
    lines = tick.writes().rows()
    width = size + waiting
    bottom = 1
    for number, row in gains:
        bottom = lcm(bottom, dot(lines[number], row))
    # The guess for what is read at the tick is 0 at first.
    places = list(range(size)) + [None] * (behind - size) + list(range(size, width))
    rows = []
    for at, place in enumerate(places):
        entries = [bottom * entry for entry in unit_row(width, place)]
        written = [0] * len(lines)
        for number, row in gains:
            share = row[at] * bottom // dot(lines[number], row)
            written[number] = share * tick.writes().scale()
            line = lines[number][:size] + [0] * waiting
            entries = [entry - share * less for entry, less in zip(entries, line)]
        rows.append(entries + written)
    return Table(rows, width + len(lines), bottom)
