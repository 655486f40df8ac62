"""Certificates of zero sums, drawn by chance, held against the conditions of the claims reckoned from tables."""

import math
import random
import unittest
from fractions import Fraction

from delaynets.blocks import block_tables
from delaynets.certificates import certify_alike, certify_machine, certify_told
from delaynets.checker import holds
from delaynets.machines import Machine
from delaynets.nets import Net
from delaynets.numbers import Number
from tests import deciding
from tests.examples import WRITTEN, thrown
from tests.reckoning import fractions
from tests.rewriting import pairs
from tests.test_telling import MIXED

TEXTS = WRITTEN + thrown(60, 181) + MIXED[::5]


def of_net(net, turn):
    """The function from kept samples and input rows of a block to what is kept then and shown."""
    lead, take, show, give = map(fractions, block_tables(net, turn))
    sizes = [turn * net.rate(name)[0] // net.rate(name)[1] for name in net.outputs]

    def step(kept, rows):
        samples = [number for row in rows for number in row]
        ends = [deciding.dot(one, kept) + deciding.dot(other, samples) for one, other in zip(lead, take)]
        shown = [deciding.dot(one, kept) + deciding.dot(other, samples) for one, other in zip(show, give)]
        rows = []
        for size in sizes:
            rows.append(shown[:size])
            shown = shown[size:]
        return ends, rows

    return step


def of_machine(machine, turn):
    def step(kept, rows):
        shown, states = deciding.walk(machine, turn, rows, list(kept))
        return states[-1], shown

    return step


def read_machine(value):
    inputs, outputs, steps = value
    return Machine(inputs, outputs, tuple(tuple(tuple(tuple(Number.read(text) for text in row) for row in table)
                                                for table in step) for step in steps))


def less(rows, others):
    return [one - other for row, line in zip(rows, others) for one, other in zip(row, line)]


def joined(claim):
    """How many numbers both sides keep, how many input samples a block has, and the function for both of them."""
    net = Net.read(claim[1])
    if claim[0] == "alike":
        other = Net.read(claim[2])
        turn = math.lcm(net.period, other.period)
        second = of_net(other, turn)
        size = other.kept
    else:
        machine = read_machine(claim[-1])
        turn = math.lcm(net.period, machine.turn)
        second = of_machine(machine, turn)
        size = machine.sizes[0]
    first = of_net(net, turn)
    delay = claim[2] if claim[0] == "told back" else 0
    many = len(net.inputs)

    def step(kept, rows):
        ends, shown = first(kept[:net.kept], rows)
        others, opposed = second(kept[net.kept:net.kept + size], shown if claim[0] == "told back" else rows)
        if claim[0] != "told back":
            return ends + others, less(shown, opposed)
        lasts = kept[net.kept + size:]
        lines = [lasts[delay * at:delay * (at + 1)][::-1] + row for at, row in enumerate(rows)]
        return (ends + others + [number for line in lines for number in line[turn:][::-1]],
                less(opposed, [line[:turn] for line in lines]))

    return net.kept + size + delay * many, turn * many, turn, step


def tables(claim):
    """How many numbers are kept, and for each of them and each input sample what becomes of a 1 there."""
    kept, samples, turn, step = joined(claim)
    columns = []
    for place in range(kept + samples):
        unit = [Fraction(int(at == place)) for at in range(kept + samples)]
        rows = [unit[kept + turn * at:kept + turn * (at + 1)] for at in range(samples // turn)]
        columns.append(step(unit[:kept], rows))
    ends = [[column[0][at] for column in columns] for at in range(kept)]
    differences = [[column[1][at] for column in columns] for at in range(len(columns[0][1]) if columns else 0)]
    return kept, ends, differences


def meets(parts, sums):
    """Whether the zero sums meet the conditions."""
    kept, ends, differences = parts
    sums = [[Fraction(str(number)) for number in row] for row in sums]
    rows = differences + [[deciding.dot(row, [end[at] for end in ends]) for at in range(len(ends[0]) if ends else 0)]
                          for row in sums]
    if any(any(row[kept:]) for row in rows):
        return False
    many = len(deciding.independent(sums)) if kept else 0
    return all(not any(row[:kept]) or len(deciding.independent(sums + [row[:kept]])) == many for row in rows)


def changed(rows, width, chance):
    """Some other zero sums that are made of these."""
    rows = [list(row) for row in rows]
    kind = chance.randrange(6)
    if kind == 0 and rows:
        rows.pop(chance.randrange(len(rows)))
    elif kind == 1 and rows:
        at, to, share = chance.randrange(len(rows)), chance.randrange(len(rows)), Number(chance.choice((1, -2)), 3)
        rows[at] = [one + other * share for one, other in zip(rows[at], rows[to])]
    elif kind == 2 and rows and width:
        at, place = chance.randrange(len(rows)), chance.randrange(width)
        rows[at][place] = rows[at][place] + chance.choice((-1, 1))
    elif kind == 3:
        rows.append([chance.choice((0, 0, 0, 1, -1)) for _ in range(width)])
    elif kind == 4 and rows:
        row = chance.choice(rows)
        rows = [row if chance.random() < 0.3 else other for other in rows]
    else:
        chance.shuffle(rows)
    return tuple(map(tuple, rows))


class ZeroSumsTest(unittest.TestCase):
    def check(self, claim, certificate, chance, counts):
        parts = tables(claim)
        self.assertTrue(meets(parts, certificate))
        for _ in range(8):
            sums = certificate
            for _ in range(chance.choice((1, 1, 2))):
                sums = changed(sums, parts[0], chance)
            wanted = meets(parts, sums)
            self.assertIs(holds(claim, sums), wanted, (claim, sums))
            counts[wanted] += 1

    def test_alike(self):
        chance, counts = random.Random(182), {True: 0, False: 0}
        for text, line in pairs(TEXTS, 183):
            if math.lcm(Net.read(text).period, Net.read(line).period) <= 12:
                claim, certificate = certify_alike(Net.read(text), Net.read(line)) or (None, ())
                if claim and claim[0] == "alike":
                    self.check(claim, certificate, chance, counts)
        self.assertGreater(min(counts.values()), 40)

    def test_made_by(self):
        chance, counts = random.Random(184), {True: 0, False: 0}
        for text in TEXTS:
            pair = certify_machine(Net.read(text))
            if pair:
                self.check(*pair, chance, counts)
        self.assertGreater(min(counts.values()), 40)

    def test_told_back(self):
        chance, counts = random.Random(185), {True: 0, False: 0}
        for text in TEXTS:
            pair = certify_told(Net.read(text))
            if pair and pair[0][0] == "told back":
                self.check(*pair, chance, counts)
        self.assertGreater(min(counts.values()), 40)

    def test_machines_that_are_nearly_right(self):
        chance, count = random.Random(186), 0
        for text in TEXTS:
            for pair in (certify_machine(Net.read(text)), certify_told(Net.read(text))):
                if pair is None or pair[0][0] == "lost":
                    continue
                claim, certificate = pair
                steps = [[[list(row) for row in table] for table in step] for step in claim[-1][2]]
                places = [(at, table, row, place) for at, step in enumerate(steps) for table, rows in enumerate(step)
                          for row, entries in enumerate(rows) for place in range(len(entries))]
                for at, table, row, place in chance.sample(places, min(3, len(places))):
                    old = steps[at][table][row][place]
                    steps[at][table][row][place] = str(Fraction(old) + 1)
                    machine = (*claim[-1][:2], tuple(tuple(tuple(map(tuple, rows)) for rows in step) for step in steps))
                    steps[at][table][row][place] = old
                    other = (*claim[:-1], machine)
                    wanted = meets(tables(other), certificate)
                    self.assertIs(holds(other, certificate), wanted, other)
                    count += not wanted
        self.assertGreater(count, 100)


if __name__ == "__main__":
    unittest.main()
