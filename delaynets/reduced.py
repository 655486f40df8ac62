"""The steps that keep the fewest numbers: the first free answers that are not made up of those before them."""

from math import gcd

from delaynets.numbers import Number
from delaynets.tables import Span, dot, unit_row
from delaynets.ticks import ticks_of_net


def normal_steps(net):
    """The steps of the normal machine of a net."""
    steps = reduced(ticks_of_net(net))
    per_unit = len(steps) // net.period
    for turn in range(1, net.period):
        # All outputs are written at the first step, so that a turn has a whole number of samples of each one.
        if net.period % turn == 0 and steps[turn * per_unit:] == steps[:-turn * per_unit]:
            return steps[:turn * per_unit]
    return steps


def reduced(ticks):
    """The steps (F, G, H, D), one for each tick of the turn, of the normal machine of the same behaviour."""
    spaces = _reached(ticks)
    rows = _kept_rows(ticks, spaces)
    idle = {}
    steps = []
    for at, tick in enumerate(ticks):
        if not tick.is_idle():
            steps.append(_step(tick, rows[at], rows[at + 1], spaces[at]))
            continue
        size = len(rows[at])
        if size not in idle:
            idle[size] = _step(tick, rows[at], rows[at + 1], spaces[at])
        steps.append(idle[size])
    return tuple(steps)


def _reached(ticks):
    """For each tick rows that make up whatever may be kept before it, late enough in time."""
    start = []
    while True:
        spaces = [start]
        for tick in ticks:
            spaces.append(spaces[-1] if tick.is_idle() else _image(tick, spaces[-1]))
        # From one turn to the next nothing is lost, so as many rows make up the same.
        if len(spaces[-1]) == len(start):
            return spaces[:-1]
        start = spaces[-1]


def _image(tick, space):
    """Rows that make up what is kept behind a tick."""
    span = Span(tick.moves().height())
    for vector in space:
        span.takes([dot(row, vector) for row in tick.moves().rows()])
    for at in range(tick.size(), tick.size() + tick.reads()):
        span.takes(tick.moves().column(at))
    return span.basis()


def _kept_rows(ticks, spaces):
    """For each tick, and for the one behind the last, the kept numbers as pairs: integers and a denominator."""
    behind = []
    while True:
        found = [behind]
        for tick, space in zip(ticks[::-1], spaces[::-1]):
            found.append(found[-1] if tick.is_idle() else _chosen(tick, found[-1], space))
        # The free answers of one turn more have given nothing, so those of all turns will not.
        if len(found[-1]) == len(behind):
            return found[::-1]
        behind = found[-1]


def _chosen(tick, behind, space):
    """The kept numbers before a tick, in their order, those behind it being known."""
    rows = [_lowest(row[:tick.size()], tick.writes().scale()) for row in tick.writes().rows()]
    rows.extend([_led(tick, row)[0] for row in behind])
    span = Span(len(space))
    return [row for row in rows if span.takes([dot(row[0], vector) for vector in space])]


def _led(tick, row):
    """The multiples, of what is kept before the tick and of what is read, that make up a kept number behind it."""
    entries, bottom = row
    led = tick.moves().led(entries)
    bottom = bottom * tick.moves().scale()
    return _lowest(led[:tick.size()], bottom), [Number(entry, bottom) for entry in led[tick.size():]]


def _lowest(entries, bottom):
    shared = bottom
    for entry in entries:
        shared = gcd(shared, entry)
    return [entry // shared for entry in entries], bottom // shared


def _step(tick, before, behind, space):
    """The tables (F, G, H, D) of a tick for the kept numbers before and behind it."""
    span = Span(len(space))
    for at, row in enumerate(before):
        span.takes([dot(row[0], vector) for vector in space] + unit_row(len(before) + 1, at))
    moved = [_led(tick, row) for row in behind]
    writes = tick.writes()
    shown = [_lowest(row[:tick.size()], writes.scale()) for row in writes.rows()]
    return (tuple([_shares(row, before, span, space) for row, _ in moved]),
            tuple([tuple(taken) for _, taken in moved]),
            tuple([_shares(row, before, span, space) for row in shown]),
            writes.part(tick.size(), tick.size() + tick.reads()).numbers())


def _shares(row, before, span, space):
    """The multiples of the kept numbers before the tick that make up this row, as Numbers."""
    entries, bottom = row
    rest = span.rest([dot(entries, vector) for vector in space] + unit_row(len(before) + 1, len(before)))
    counted = rest[len(space):]
    return tuple([Number(-share * own, counted[-1] * bottom) for share, (_, own) in zip(counted, before)])
