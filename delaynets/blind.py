"""Inputs that leave the outputs of a machine at 0.

They are rows of integers: what is kept, and behind that the samples of the inputs that are looked at, the earlier
ones first. At a tick, the samples that are read then stand between both.
"""

from delaynets.tables import blended, dot, unit_row


def entered(rows, tick, many):
    """The rows at a tick, `many` samples being looked at; the samples that are read may be any."""
    size, reads = tick.size(), tick.reads()
    found = [row[:size] + [0] * reads + row[size:] for row in rows]
    found.extend([unit_row(size + reads + many, size + at) for at in range(reads)])
    return found


def silent(rows, tick):
    """Rows for those that also leave at 0 what is written at the tick, and what had to be left out for that.

    The latter are pairs: the number of what is written, and a row that makes it other than 0, but not the others.
    """
    left_out = []
    for number, line in enumerate(tick.writes().rows()):
        loud = [row for row in rows if dot(line, row) != 0]
        if loud:
            rows = [_hushed(row, line, loud[0]) for row in rows if row != loud[0]]
            left_out = [(at, _hushed(row, line, loud[0])) for at, row in left_out] + [(number, loud[0])]
    return rows, left_out


def _hushed(row, line, loud):
    return blended(row, dot(line, loud), loud, dot(line, row))


def moved(row, tick):
    """The row behind a tick, with the samples that were read behind those looked at before."""
    size, behind = tick.size(), tick.size() + tick.reads()
    scale = tick.moves().scale()
    kept = [dot(line, row) for line in tick.moves().rows()]
    return kept + [scale * sample for sample in row[behind:] + row[size:behind]]
