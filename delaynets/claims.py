"""The parts of claims and certificates: how they are read and written."""

from delaynets.errors import InputError, LimitError, NetError
from delaynets.machines import Machine
from delaynets.nets import Net
from delaynets.numbers import Number, as_number, is_integer, is_number
from delaynets.tables import over_one

MAX_INDEX = 200
MAX_CLAIMED = 40
MAX_LATE = 60
MAX_STEPS = 72
MAX_SIZE = 40
MAX_LENGTH = 200


class NoClaim(Exception):
    """A value is no claim, or a certificate has not the form that the claim asks for."""


def read_net(value):
    """The net with this text."""
    try:
        return Net.read(value)
    except (InputError, NetError, LimitError):
        raise NoClaim() from None


def read_number(value):
    """The number with this text."""
    try:
        return Number.read(value)
    except InputError:
        raise NoClaim() from None


def read_tuple(value):
    """The value, which is to be a tuple."""
    if not isinstance(value, tuple):
        raise NoClaim()
    return value


def read_none(value):
    """The value, which is to be a tuple without elements."""
    if read_tuple(value):
        raise NoClaim()
    return value


def read_count(value, greatest):
    """The value, which is to be an integer from 0 on."""
    if not is_integer(value) or not 0 <= value <= greatest:
        raise NoClaim()
    return value


def read_place(value, many):
    """The value, which is to be a pair: a number below `many`, and an index."""
    if len(read_tuple(value)) != 2:
        raise NoClaim()
    return (read_count(value[0], many - 1), read_count(value[1], MAX_INDEX))


def read_machine(value):
    """The machine that a tuple (input rates, output rates, steps) stands for."""
    if len(read_tuple(value)) != 3 or len(read_tuple(value[2])) > MAX_STEPS:
        raise NoClaim()
    steps = tuple([tuple([read_texts(table) for table in read_tuple(step)]) for step in value[2]])
    try:
        machine = Machine(value[0], value[1], steps)
    except InputError:
        raise NoClaim() from None
    if max(machine.sizes) > MAX_SIZE:
        raise NoClaim()
    return machine


def read_texts(value):
    """The tuple of tuples of Numbers that a tuple of tuples of their texts stands for."""
    return tuple([tuple([read_number(text) for text in read_tuple(row)]) for row in read_tuple(value)])


def read_rows(value, width):
    """Rows of as many numbers each, as lists of Numbers."""
    rows = [[as_number(number) for number in read_tuple(row) if is_number(number)] for row in read_tuple(value)]
    if any([len(row) != width or len(row) != len(numbers) for row, numbers in zip(rows, value)]):
        raise NoClaim()
    return rows


def read_sums(value, width):
    """Zero sums, as rows of integers."""
    return [over_one(row)[0] for row in read_rows(value, width)]


def written_machine(machine):
    """The machine as a tuple with texts of numbers."""
    steps = [tuple([written_rows(table) for table in step]) for step in machine.steps]
    return (machine.input_rates, machine.output_rates, tuple(steps))


def written_rows(rows):
    """The texts of numbers."""
    return tuple([tuple([str(number) for number in row]) for row in rows])
