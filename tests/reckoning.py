"""Nets reckoned in another way: texts by patterns, rates by spreading them, samples straight from point 7."""

import math
import re
import sys
from fractions import Fraction
from functools import reduce

from tests.oracle import CALL, MARK, NAME, expression_in, number_in

sys.setrecursionlimit(100000)

LINE = re.compile("([a-z][a-z0-9]{0,7}) = (.*)")


def tree(text):
    """An expression as a tuple (word, the trees inside, the number or the name)."""
    found = []

    def piece(argument):
        mark = MARK.fullmatch(argument)
        return found[int(mark.group(1))] if mark else ("name", (), argument)

    def put(match):
        word, arguments = match.group(1), match.group(2).split(", ")
        if word == "sum":
            found.append((word, tuple(map(piece, arguments)), None))
        elif word == "times":
            found.append((word, (piece(arguments[1]),), number_in(arguments[0])))
        else:
            found.append((word, (piece(arguments[0]),), int(arguments[1])))
        return f"<{len(found) - 1}>"

    before = None
    while before != text:
        before, text = text, CALL.sub(put, text)
    return piece(text)


def parts_of(expression):
    """All parts of a tree, in the order of their words."""
    return [expression] + [part for inner in expression[1] for part in parts_of(inner)]


def at_once(expression):
    """The names in a tree that are needed at the same moment."""
    word, inside, number = expression
    if word == "name":
        return {number}
    if word == "late" and number:
        return set()
    return {name for inner in inside for name in at_once(inner)}


class Net:
    """Inputs, trees of definitions and outputs."""

    def __init__(self, inputs, texts, outputs):
        self.inputs = tuple(inputs)
        self.trees = {name: tree(texts[name]) for name in sorted(texts)}
        self.outputs = tuple(outputs)

    # --- whether it is a net ---

    def is_ring(self, ring):
        """Whether each name needs the next one, and the last one the first, at the same moment."""
        return (isinstance(ring, tuple) and 1 <= len(ring) == len(set(ring)) and set(ring) <= set(self.trees)
                and all(ring[(at + 1) % len(ring)] in at_once(self.trees[name]) for at, name in enumerate(ring)))

    def has_ring(self):
        """Whether some name is needed, through some others, for itself."""
        reach = {name: at_once(expression) & set(self.trees) for name, expression in self.trees.items()}
        for _ in self.trees:
            reach = {name: set().union(to, *[reach[other] for other in to]) for name, to in reach.items()}
        return any(name in to for name, to in reach.items())

    def rates(self, names=None):
        """The rates of names and of places of parts, as far as they are fixed; None if there are none.

        A part stands at a place: the name and the way to it.
        """
        ties = {}
        for name in self.inputs:
            self._tie(ties, 1, name, Fraction(1))
        for name in self.trees if names is None else names:
            self._tie(ties, name, (name,), Fraction(1))
            self._tie_inside(ties, self.trees[name], (name,))
        rates = {}
        for start in [1] + [place for place in ties if place != 1]:
            if start not in rates and not self._spread(ties, start, rates):
                return None
        return {place: rate for place, (root, rate) in rates.items() if root == 1}

    def _tie(self, ties, one, other, factor):
        ties.setdefault(one, []).append((other, factor))
        ties.setdefault(other, []).append((one, 1 / factor))

    def _tie_inside(self, ties, expression, place):
        word, inside, number = expression
        if word == "name":
            self._tie(ties, place, number, Fraction(1))
        factor = Fraction(1)
        if word in ("every", "spread"):
            factor = Fraction(number) if word == "every" else Fraction(1, number)
        for at, inner in enumerate(inside):
            self._tie(ties, place, place + (at,), factor)
            self._tie_inside(ties, inner, place + (at,))

    def _spread(self, ties, start, rates):
        rates[start] = (start, Fraction(1))
        front = [start]
        while front:
            place = front.pop()
            for other, factor in ties.get(place, []):
                rate = rates[place][1] * factor
                if other not in rates:
                    rates[other] = (start, rate)
                    front.append(other)
                elif rates[other][1] != rate:
                    return False
        return True

    def kept(self):
        return sum(number for whole in self.trees.values() for word, _, number in parts_of(whole) if word == "late")

    def period(self):
        return reduce(math.lcm, [rate.denominator for rate in self.rates().values()])

    def verdict(self):
        """The name of the error with its field, () if it is a net; without a ring, of which there may be several."""
        if not self.outputs:
            return ("NoOutput",)
        known = set(self.inputs) | set(self.trees)
        used = {number for whole in self.trees.values() for word, _, number in parts_of(whole) if word == "name"}
        unknown = (used | set(self.outputs)) - known
        if unknown:
            return ("UnknownName", sorted(unknown)[0])
        if self.has_ring():
            return ("RingWithoutDelay",)
        names = list(self.trees)
        for at, name in enumerate(names):
            if self.rates(names[:at + 1]) is None:
                return ("TwoRates", name)
        rates = self.rates()
        open_names = [name for name in names if name not in rates or not self._all_fixed(name, rates)]
        if open_names:
            return ("NoRate", open_names[0])
        return self._beyond(rates)

    def _all_fixed(self, name, rates):
        def fixed(expression, place):
            return place in rates and all(fixed(inner, place + (at,)) for at, inner in enumerate(expression[1]))
        return fixed(self.trees[name], (name,))

    def _beyond(self, rates):
        if len(self.trees) > 12:
            return ("TooMany", 12)
        if self.kept() > 8:
            return ("TooMany", 8)
        if self.period() > 6:
            return ("TooLarge", 6)
        if max(rate.numerator for rate in rates.values()) > 12:
            return ("TooLarge", 12)
        return ()

    # --- what it shows ---

    def text(self):
        lines = [f"input {name}" for name in self.inputs]
        lines += [f"{name} = {written(self.trees[name])}" for name in sorted(self.trees)]
        return "\n".join(lines + [f"output {name}" for name in self.outputs])

    def counts(self, times):
        """How many samples of each output stand at times below."""
        rates = self.rates()
        return [math.ceil(rates[name] * times) for name in self.outputs]

    def run(self, *rows):
        """The samples of the outputs at the times of those of the inputs, as Fractions."""
        sample = self.sampler(rows)
        return tuple(tuple(sample(("name", (), name), index) for index in range(count))
                     for name, count in zip(self.outputs, self.counts(len(rows[0]))))

    def kept_at(self, time, *rows):
        """The kept samples at the beginning of a block, in the order of point 11."""
        sample = self.sampler(rows)
        rates = self.rates()
        row = []
        for name, whole in self.trees.items():
            for place, part in places_of(whole, (name,)):
                if part[0] == "late":
                    count = int(rates[place] * time)
                    row += [sample(part[1][0], count - 1 - back) for back in range(part[2])]
        return row

    def sampler(self, rows):
        """The function that gives the sample of an expression with an index."""
        given = {name: [Fraction(str(number)) for number in row] for name, row in zip(self.inputs, rows)}
        known = {}

        def sample(expression, index):
            word, inside, number = expression
            if index < 0:
                return Fraction(0)
            if word == "name":
                if number in given:
                    return given[number][index]
                if (number, index) not in known:
                    known[number, index] = sample(self.trees[number], index)
                return known[number, index]
            if word == "sum":
                return sum((sample(inner, index) for inner in inside), Fraction(0))
            if word == "times":
                return number * sample(inside[0], index)
            if word == "late":
                return sample(inside[0], index - number)
            if word == "every":
                return sample(inside[0], index * number)
            return sample(inside[0], index // number) if index % number == 0 else Fraction(0)

        return sample


def places_of(expression, place):
    """The places of all parts, in the order of their words."""
    inner = [pair for at, part in enumerate(expression[1]) for pair in places_of(part, place + (at,))]
    return [(place, expression)] + inner


def written(expression):
    """The text of a tree."""
    word, inside, number = expression
    if word == "name":
        return number
    inner = [written(part) for part in inside]
    if word == "sum":
        return f"sum({', '.join(inner)})"
    return f"times({number}, {inner[0]})" if word == "times" else f"{word}({inner[0]}, {number})"


def net_in(text):
    """The net with this text, whatever it lacks; None if the text has not the form of one."""
    lines = text.split("\n")
    inputs, definitions, outputs = [], [], []
    while lines and lines[0].startswith("input ") and not LINE.fullmatch(lines[0]):
        inputs.append(lines.pop(0)[6:])
    while lines and LINE.fullmatch(lines[0]):
        definitions.append(LINE.fullmatch(lines.pop(0)).groups())
    while lines and lines[0].startswith("output "):
        outputs.append(lines.pop(0)[7:])
    names = [name for name, _ in definitions]
    right = (not lines and _are_names(inputs) and _are_names(outputs) and names == sorted(set(names))
             and not set(names) & set(inputs) and all(expression_in(signal) for _, signal in definitions))
    return Net(inputs, dict(definitions), outputs) if right else None


def _are_names(names):
    return 1 <= len(names) == len(set(names)) <= 3 and all(NAME.fullmatch(name) for name in names)


def fractions(rows):
    """Tuples of Numbers as tuples of Fractions."""
    return tuple(tuple(Fraction(number.top, number.bottom) for number in row) for row in rows)
