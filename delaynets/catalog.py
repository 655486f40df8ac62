"""A few nets that are often needed."""

from delaynets.errors import InvalidStep
from delaynets.nets import Net
from delaynets.numbers import is_integer

MAX_CATALOG_STEP = 4
HALVES = """input x
high = every(sum(x, times(-1, late(x, 1))), 2)
low = every(sum(x, late(x, 1)), 2)
output low
output high"""
JOINED = """input x
back = times(1/2, sum(up, times(-1, down), late(up, 1), late(down, 1)))
down = spread(high, 2)
high = every(sum(x, times(-1, late(x, 1))), 2)
low = every(sum(x, late(x, 1)), 2)
up = spread(low, 2)
output back"""
RUNNING_SUM = """input x
y = sum(x, late(y, 1))
output y"""


def halves():
    """The sums and the differences of two neighbours each."""
    return Net.read(HALVES)


def joined():
    """The sums and the differences of neighbours, joined to the input again."""
    return Net.read(JOINED)


def running_sum():
    """The sum of all samples so far."""
    return Net.read(RUNNING_SUM)


def held(k):
    """Each k-th sample, held for k samples."""
    _check_step(k)
    copies = "".join([f", late(t, {count})" for count in range(1, k)])
    return Net.read(f"input x\ns = every(x, {k})\nt = spread(s, {k})\ny = sum(t{copies})\noutput y")


def thinned(k):
    """Each k-th sample."""
    _check_step(k)
    return Net.read(f"input x\ny = every(x, {k})\noutput y")


def filled(k):
    """Zeros between the samples."""
    _check_step(k)
    return Net.read(f"input x\ny = spread(x, {k})\noutput y")


def _check_step(value):
    if not is_integer(value) or not 1 <= value <= MAX_CATALOG_STEP:
        raise InvalidStep(value)
