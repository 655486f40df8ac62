"""Whether the powers of a table go to 0, told by pivots."""

from delaynets.numbers import Number
from delaynets.tables import Span, Table, blended, over_one, table_of, unit_row
from delaynets.ticks import ticks_of_machine


def lead_over_turn(machine):
    """The table that leads the numbers kept at the beginning of a turn over the turn, without inputs."""
    size = machine.sizes[0]
    lead = Table([unit_row(size, at) for at in range(size)], size, 1)
    for tick in ticks_of_machine(machine):
        if not tick.is_idle():
            lead = tick.moves().part(0, tick.size()).after(lead)
    return lead


def change_over_turn(lead, square):
    """The table X - T(M) X M for the table M that leads over the turn, and a square table X."""
    size = lead.width()
    turned = Table([lead.column(at) for at in range(size)], lead.height(), lead.scale())
    moved = turned.after(square).after(lead).numbers()
    rows = [[one - other for one, other in zip(left, right)] for left, right in zip(square.numbers(), moved)]
    return table_of(rows, size)


def are_pivots_positive(square):
    """Whether all pivots of a table are above 0."""
    rows = square.rows()
    while rows:
        first = rows[0]
        if first[0] <= 0:
            return False
        # Rows are only multiplied by what is above 0, which leaves the signs of the pivots as they are.
        rows = [blended(row, first[0], first, row[0])[1:] for row in rows[1:]]
    return True


def steady(lead):
    """The only symmetric table X with X - T(M) X M = I, as rows of Numbers, if all its pivots are above 0, or None."""
    size = lead.width()
    numbers = lead.numbers()
    places = [(row, column) for row in range(size) for column in range(row, size)]
    span = Span(len(places))
    for row, column in places:
        if not span.takes(over_one(_equation(numbers, places, row, column))[0]):
            return None
    values = _solved(span, len(places))
    rows = [[values[places.index((min(at, to), max(at, to)))] for to in range(size)] for at in range(size)]
    return rows if are_pivots_positive(table_of(rows, size)) else None


def _equation(lead, places, row, column):
    """The multiples of the entries of X in an entry of X - T(M) X M, and behind them what it has to be."""
    shares = []
    for one, other in places:
        share = Number(1 if (one, other) == (row, column) else 0) - lead[one][row] * lead[other][column]
        if one != other:
            share = share - lead[other][row] * lead[one][column]
        shares.append(share)
    return [*shares, Number(1 if row == column else 0)]


def _solved(span, many):
    """The numbers that meet all equations, one for each place."""
    values = [Number(0)] * many
    # Each row has 0 at the places of those before it, so the last one tells its number by itself.
    for place, row in span.held()[::-1]:
        rest = Number(row[many])
        for at in range(many):
            if at != place and row[at] != 0:
                rest = rest - values[at] * row[at]
        values[place] = rest.over(row[place])
    return values
