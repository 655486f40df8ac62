import random
import unittest
from fractions import Fraction

from delaynets.blocks import block_tables
from delaynets.catalog import filled, halves, held, running_sum, thinned
from delaynets.errors import InvalidTime, NotANet
from delaynets.nets import Net
from delaynets.numbers import Number
from tests.examples import WRITTEN, thrown
from tests.helpers import PromiseTest, number_values, plain_values, signal_values
from tests.reckoning import fractions, net_in
from tests.test_runs import no_nets

TEXTS = WRITTEN + thrown(120, 61)


def product(table, row):
    """A table times a column."""
    return [sum((one * other for one, other in zip(entries, row)), Fraction(0)) for entries in table]


def total(one, other):
    return [left + right for left, right in zip(one, other)]


def turns_of(net):
    """The multiples of the period up to 12."""
    return range(net.period, 13, net.period)


class BlocksTest(PromiseTest):
    def test_the_example_of_the_document(self):
        tables = block_tables(running_sum(), 2)
        self.assertEqual([str(tables[0]), str(tables[1]), str(tables[3])], [
            "((Number(1),),)", "((Number(1), Number(1)),)", "((Number(1), Number(0)), (Number(1), Number(1)))"])
        self.assertEqual(str(tables[2]), "((Number(1),), (Number(1),))")

    def shape(self, table, height, width):
        self.assertIs(table.__class__, tuple)
        self.assertEqual(len(table), height)
        for row in table:
            self.assertIs(row.__class__, tuple)
            self.assertEqual(len(row), width)
            self.assertTrue(all(number.__class__ is Number for number in row))

    def check(self, net, other, turn, chance):
        """Check the block behind some others against what is reckoned straight from the definitions."""
        tables = block_tables(net, turn)
        self.assertIs(tables.__class__, tuple)
        self.assertEqual(len(tables), 4)
        sizes = [turn * net.rate(name)[0] // net.rate(name)[1] for name in net.outputs]
        kept, read, shown = net.kept, turn * len(net.inputs), sum(sizes)
        for table, height, width in zip(tables, (kept, kept, shown, shown), (kept, read, kept, read)):
            self.shape(table, height, width)
        lead, take, show, pass_on = map(fractions, tables)
        before = turn * chance.choice((0, 1, 2, 3))
        rows = [tuple(chance.randint(-9, 9) for _ in range(before + turn)) for _ in net.inputs]
        start = other.kept_at(before, *rows)
        samples = [number for row in rows for number in row[before:]]
        self.assertEqual(total(product(lead, start), product(take, samples)), other.kept_at(before + turn, *rows))
        outputs = [number for row, size in zip(other.run(*rows), sizes) for number in row[len(row) - size:]]
        self.assertEqual(total(product(show, start), product(pass_on, samples)), outputs)

    def test_the_period(self):
        chance = random.Random(71)
        for text in TEXTS:
            net, other = Net.read(text), net_in(text)
            for _ in range(3):
                self.check(net, other, net.period, chance)

    def test_multiples_of_the_period(self):
        chance = random.Random(72)
        for text in TEXTS[::3]:
            net, other = Net.read(text), net_in(text)
            for turn in turns_of(net):
                self.check(net, other, turn, chance)

    def test_the_order_of_the_kept_samples(self):
        net = Net.read("input x\ninput z\nb = late(late(x, 2), 1)\nw = late(z, 3)\noutput w\noutput b")
        lead, take, show, pass_on = [[[str(number) for number in row] for row in table]
                                     for table in block_tables(net, 1)]
        self.assertEqual(lead, [list("001000"), list("000000"), list("010000"), list("000000"), list("000100"),
                                list("000010")])
        self.assertEqual(take, [list("00"), list("10"), list("00"), list("01"), list("00"), list("00")])
        self.assertEqual(show, [list("000001"), list("100000")])
        self.assertEqual(pass_on, [list("00"), list("00")])

    def test_the_order_of_the_samples(self):
        net = Net.read("input x\ninput z\na = spread(x, 2)\nb = every(sum(x, times(2, z)), 2)\noutput b\noutput a")
        lead, take, show, pass_on = block_tables(net, 2)
        self.assertEqual((lead, take), ((), ()))
        self.assertEqual(show, ((), (), (), (), ()))
        self.assertEqual([[str(number) for number in row] for row in pass_on],
                         [list("1020"), list("1000"), list("0000"), list("0100"), list("0000")])

    def test_no_kept_samples(self):
        self.assertEqual(str(block_tables(filled(2), 1)), "((), (), ((), ()), ((Number(1),), (Number(0),)))")
        self.assertEqual(str(block_tables(thinned(2), 2)), "((), (), ((),), ((Number(1), Number(0)),))")

    def test_by_name_and_equal_calls(self):
        self.assertEqual(block_tables(net=held(3), turn=6), block_tables(held(3), 6))
        self.assertEqual(block_tables(turn=6, net=held(3)), block_tables(held(3), 6))

    def test_no_net(self):
        for value in no_nets():
            self.fails(NotANet, lambda: block_tables(value, 1), value=value)
            self.fails(NotANet, lambda: block_tables(value, "x"), value=value)

    def test_wrong_turns(self):
        for net in (running_sum(), halves(), held(3), held(4), Net.read("input x\ny = every(x, 5)\noutput y"),
                    Net.read("input x\ny = every(x, 6)\noutput y")):
            strange = [*plain_values(), *number_values(), *signal_values(), Number(net.period), str(net.period)]
            for turn in [*strange, 0, -1, -net.period, 13, 14, 15, 16, 18, 20, 24, 10 ** 39]:
                self.fails(InvalidTime, lambda: block_tables(net, turn), value=turn)
            for turn in range(1, 13):
                if turn % net.period:
                    self.fails(InvalidTime, lambda: block_tables(net, turn), value=turn)
                else:
                    self.assertEqual(len(block_tables(net, turn)), 4)


if __name__ == "__main__":
    unittest.main()
