"""Sums of multiples of variables, which stand for samples that are not known."""

from delaynets.numbers import Number


class Form:
    """A sum of multiples of variables, which are numbered."""

    def __init__(self, shares):
        self._shares = shares

    def share(self, variable):
        """The multiple of a variable."""
        return self._shares[variable] if variable in self._shares else Number(0)

    def shares(self, first, behind):
        """The multiples of the variables from one on, before another one."""
        return [self.share(variable) for variable in range(first, behind)]

    def variables(self):
        """The variables with a multiple other than 0."""
        return [variable for variable in self._shares if self._shares[variable].sign != 0]

    def __add__(self, other):
        if not other._shares:
            return self
        total = dict(self._shares)
        for variable in other._shares:
            total[variable] = self.share(variable) + other._shares[variable]
        return Form(total)

    def __mul__(self, other):
        return Form({variable: self._shares[variable] * other for variable in self._shares})


def nothing():
    """The form without variables."""
    return Form({})


def units(first, behind):
    """The forms that are one variable each, from one on, before another one."""
    return [Form({variable: Number(1)}) for variable in range(first, behind)]
