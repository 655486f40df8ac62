"""Tables as integers over one denominator, and what rows of integers span."""

from math import gcd, lcm

from delaynets.numbers import Number


def dot(one, other):
    """The sum of the products, up to the end of the shorter row."""
    return sum([left * right for left, right in zip(one, other)])


def shortened(row):
    """The row without what all its integers share."""
    shared = 0
    for entry in row:
        shared = gcd(shared, entry)
        if shared == 1:
            return row
    return [entry // shared for entry in row] if shared > 1 else row


def cleared(row, place, other):
    """A sum of multiples of both rows that has 0 at a place at which the other one has not; nothing else is lost."""
    if row[place] == 0:
        return row
    return blended(row, other[place], other, row[place])


def blended(row, factor, other, less):
    """A multiple of `factor` times the row, less `less` times the other one."""
    shared = gcd(factor, less)
    factor, less = factor // shared, less // shared
    return shortened([factor * left - less * right for left, right in zip(row, other)])


def over_one(numbers):
    """A row of Numbers as integers, and their common denominator."""
    bottom = 1
    for number in numbers:
        bottom = lcm(bottom, number.bottom)
    return [number.top * (bottom // number.bottom) for number in numbers], bottom


class Span:
    """Rows of integers, none of which is a sum of multiples of the ones before.

    Only the first `width` integers of a row count; those behind them tell how it came about.
    """

    def __init__(self, width):
        self._width = width
        self._held = []

    def rest(self, row):
        """What is left of a multiple of the row without multiples of the rows taken in."""
        for place, other in self._held:
            row = cleared(row, place, other)
        return row

    def takes(self, row):
        """Take the row in; False if multiples of those before make it up already."""
        rest = self.rest(row)
        for place in range(self._width):
            if rest[place] != 0:
                self._held.append((place, rest))
                return True
        return False

    def covers(self, row):
        """Whether multiples of the rows taken in make up this one."""
        return not any(self.rest(row)[:self._width])

    def held(self):
        """A pair for each row taken in: a place, and a row with 0 at the places before, but not at this one."""
        return list(self._held)

    def basis(self):
        """As many rows as were taken in, which make up the same ones."""
        return [row for _, row in self._held]


class Table:
    """Rows of as many fractions each, kept as integers over one denominator."""

    def __init__(self, rows, width, scale):
        shared = scale
        for line in rows:
            for part in line:
                shared = gcd(shared, part)
        self._rows = [[entry // shared for entry in row] for row in rows] if shared > 1 else rows
        self._width = width
        self._scale = scale // shared

    def rows(self):
        """The rows of integers."""
        return self._rows

    def width(self):
        """The number of columns."""
        return self._width

    def height(self):
        """The number of rows."""
        return len(self._rows)

    def scale(self):
        """The denominator."""
        return self._scale

    def column(self, at):
        """The integers of a column."""
        return [row[at] for row in self._rows]

    def part(self, first, behind):
        """The columns from one on, before another one."""
        return Table([row[first:behind] for row in self._rows], behind - first, self._scale)

    def led(self, row):
        """A row of integers, times the integers of this table."""
        total = [0] * self._width
        for entry, other in zip(row, self._rows):
            if entry != 0:
                total = [left + entry * right for left, right in zip(total, other)]
        return total

    def after(self, other):
        """This table, times the other one."""
        return Table([other.led(row) for row in self._rows], other.width(), self._scale * other.scale())

    def numbers(self):
        """The rows as a tuple of tuples of Numbers."""
        return tuple([tuple([Number(entry, self._scale) for entry in row]) for row in self._rows])


def table_of(rows, width):
    """The Table of rows of Numbers."""
    bottom = 1
    for row in rows:
        bottom = lcm(bottom, over_one(row)[1])
    return Table([[number.top * (bottom // number.bottom) for number in row] for row in rows], width, bottom)


def unit_row(width, place):
    """Zeros with a 1 at a place."""
    return [1 if at == place else 0 for at in range(width)]
