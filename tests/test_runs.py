import inspect
import random
import unittest
from fractions import Fraction

from delaynets.catalog import filled, halves, held, joined, running_sum, thinned
from delaynets.errors import InvalidCount, InvalidInputs, NotANet
from delaynets.nets import Draft, Net
from delaynets.numbers import Number
from delaynets.runs import answers, run
from tests.examples import WRITTEN, thrown
from tests.helpers import PromiseTest, number_values, plain_values, signal_values
from tests.reckoning import fractions, net_in

TEXTS = WRITTEN + thrown(250, 21)
TWO = "input x\ninput z\ny = sum(x, late(z, 1))\noutput y"


def no_nets():
    """Values that are no nets."""
    return plain_values() + number_values() + signal_values() + [0, 1, Draft("x"), TWO]


def one_net(definition):
    """The net with one input and this definition."""
    return Net.read(f"input x\ny = {definition}\noutput y")


def some_numbers(chance, many):
    """Integers and Numbers, mixed, some of them zero."""
    values = [0, 0, 1, -1, 5, -7, Number(1, 2), Number(-3, 4), Number(6), Number(0), 10 ** 20, Number(7, 10 ** 9)]
    return tuple(chance.choice(values) for _ in range(many))


class RunCase(PromiseTest):
    def shape(self, got, counts):
        """Check that it is a tuple of tuples of Numbers, so many each."""
        self.assertIs(got.__class__, tuple)
        self.assertEqual([len(row) for row in got], counts)
        for row in got:
            self.assertIs(row.__class__, tuple)
            for number in row:
                self.assertIs(number.__class__, Number)


class KindsTest(RunCase):
    GIVEN = (3, 1, Number(1, 2), -1, 5, 9, 0, -2)

    def check(self, definition, shown):
        got = run(one_net(definition), self.GIVEN)
        self.shape(got, [len(shown)])
        self.assertEqual(fractions(got)[0], tuple(shown))

    def rows(self):
        return [Fraction(3), Fraction(1), Fraction(1, 2), Fraction(-1), Fraction(5), Fraction(9), Fraction(0),
                Fraction(-2)]

    def test_names(self):
        self.check("x", self.rows())
        got = run(Net.read("input x\noutput x"), self.GIVEN)
        self.shape(got, [8])
        self.assertEqual(fractions(got)[0], tuple(self.rows()))

    def test_sums(self):
        self.check("sum(x)", self.rows())
        for many in range(2, 6):
            self.check(f"sum({', '.join(['x'] * many)})", [many * number for number in self.rows()])

    def test_times(self):
        for gain in ("0", "1", "-1", "99", "-99", "1/99", "-98/99", "3/2"):
            self.check(f"times({gain}, x)", [Fraction(gain) * number for number in self.rows()])

    def test_delays(self):
        for count in range(7):
            self.check(f"late(x, {count})", ([0] * count + self.rows())[:8])

    def test_every(self):
        for step in range(1, 7):
            self.check(f"every(x, {step})", self.rows()[::step])

    def test_spread(self):
        for step in range(1, 7):
            self.check(f"spread(x, {step})", [number for row in self.rows() for number in [row] + [0] * (step - 1)])

    def test_one_in_the_other(self):
        row = self.rows()
        self.check("late(every(x, 2), 1)", [0, *row[:6:2]])
        self.check("every(late(x, 1), 2)", [0, *row[1:7:2]])
        self.check("late(spread(x, 2), 1)", ([0] + [new for old in row for new in (old, 0)])[:16])
        self.check("spread(late(x, 1), 2)", [new for old in [0, *row[:7]] for new in (old, 0)])
        self.check("spread(every(x, 3), 2)", [row[0], 0, row[3], 0, row[6], 0])
        self.check("every(spread(x, 3), 2)", [row[0], 0, 0, row[2], 0, 0, row[4], 0, 0, row[6], 0, 0])
        self.check("late(late(x, 2), 1)", [0, 0, 0, *row[:5]])


class RunTest(RunCase):
    def test_the_examples_of_the_document(self):
        low, high = run(halves(), (1, 2, 5, 4, 4))
        shown = [str(low), [len(low), len(high)], str(run(joined(), (3, 1, 4, 1))[0]),
                 str(run(held(3), (7, 8, 9, 1))[0])]
        self.assertEqual(shown, ["(Number(1), Number(7), Number(8))", [3, 3],
                                 "(Number(0), Number(3), Number(1), Number(4))",
                                 "(Number(7), Number(7), Number(7), Number(1))"])

    def test_the_catalog(self):
        self.assertEqual(str(run(running_sum(), (1, 2, 3, -4))), "((Number(1), Number(3), Number(6), Number(2)),)")
        self.assertEqual(str(run(thinned(2), (1, 2, 3))), "((Number(1), Number(3)),)")
        self.assertEqual(str(run(filled(2), (1, 2))), "((Number(1), Number(0), Number(2), Number(0)),)")

    def test_against_the_other_reckoning(self):
        chance = random.Random(31)
        for text in TEXTS:
            net, other = Net.read(text), net_in(text)
            for many in (chance.randint(0, 5), chance.randint(6, 15)):
                rows = [some_numbers(chance, many) for _ in net.inputs]
                got = run(net, *rows)
                self.shape(got, other.counts(many))
                self.assertEqual(fractions(got), other.run(*rows), text)

    def test_long_runs(self):
        chance = random.Random(32)
        for text in WRITTEN:
            net, other = Net.read(text), net_in(text)
            rows = [tuple(chance.randint(-9, 9) for _ in range(60)) for _ in net.inputs]
            self.assertEqual(fractions(run(net, *rows)), other.run(*rows), text)
        got = run(running_sum(), (1,) * 500)
        self.assertEqual([got[0][at].top for at in (0, 99, 499)], [1, 100, 500])

    def test_no_samples(self):
        for text in TEXTS:
            net = Net.read(text)
            self.assertEqual(run(net, *[() for _ in net.inputs]), tuple(() for _ in net.outputs))

    def test_times_that_are_no_multiple_of_the_period(self):
        for many in range(12):
            for step in range(1, 5):
                self.shape(run(thinned(step), (1,) * many), [-(-many // step)])
                self.shape(run(filled(step), (1,) * many), [many * step])
            self.shape(run(one_net("spread(every(x, 3), 2)"), (1,) * many), [-(-many * 2 // 3)])

    def test_great_numbers(self):
        great, small = Number(10 ** 39 - 1), Number(1, 10 ** 39)
        got = run(one_net("sum(x, late(x, 1))"), (great, small, 10 ** 39))
        self.assertEqual(fractions(got)[0], (10 ** 39 - 1, 10 ** 39 - 1 + Fraction(1, 10 ** 39),
                                             10 ** 39 + Fraction(1, 10 ** 39)))
        got = run(one_net("sum(x, times(1/99, late(y, 1)))"), (1,) + (0,) * 100)
        self.assertEqual(fractions(got)[0][100], Fraction(1, 99 ** 100))

    def test_integers_and_numbers_alike(self):
        for text in TEXTS[:60]:
            net = Net.read(text)
            one = run(net, *[(1, 0, -2, 5) for _ in net.inputs])
            other = run(net, *[(Number(2, 2), Number(0, 5), Number(-2), Number(5)) for _ in net.inputs])
            self.assertEqual(str(one), str(other))

    def test_what_is_passed_stays(self):
        net = Net.read(TWO)
        numbers = [Number(1, 2), Number(3), Number(-1)]
        rows = (tuple(numbers), (1, 2, 3))
        run(net, *rows)
        self.assertEqual(str(net), TWO)
        self.assertEqual(rows[1], (1, 2, 3))
        for at, number in enumerate(rows[0]):
            self.assertIs(number, numbers[at])
        self.assertEqual([str(number) for number in numbers], ["1/2", "3", "-1"])

    def test_equal_calls(self):
        for text in TEXTS[:40]:
            net = Net.read(text)
            rows = [(3, 1, 4, 1, 5) for _ in net.inputs]
            self.assertEqual(run(net, *rows), run(net, *rows))


class WrongInputsTest(RunCase):
    def test_no_net(self):
        for value in no_nets():
            self.fails(NotANet, lambda: run(value), value=value)
            self.fails(NotANet, lambda: run(value, (1, 2)), value=value)
            self.fails(NotANet, lambda: run(value, 5, "x"), value=value)

    def test_wrong_numbers_of_inputs(self):
        for text, many in (("input x\noutput x", 1), (TWO, 2), ("input a\ninput b\ninput c\noutput a", 3)):
            net = Net.read(text)
            for count in range(6):
                if count != many:
                    self.fails(InvalidInputs, lambda: run(net, *[(1,)] * count), index=None)
                    self.fails(InvalidInputs, lambda: run(net, *["x"] * count), index=None)
        self.fails(InvalidInputs, lambda: run(net=Net.read(TWO)), index=None)

    def test_no_tuple_of_numbers(self):
        one, two = Net.read("input x\noutput x"), Net.read(TWO)
        wrong = [value for value in plain_values() if value != () and value != (1,)]
        wrong += number_values() + signal_values() + [0, 1, [1, 2], (1, True), (False, 1), (1, "2"), (1, None), ((1,), 2),
                                                      (Number(1), [2]), (1, 2, (3,)), [Number(1)], range(2)]
        for value in wrong:
            self.fails(InvalidInputs, lambda: run(one, value), index=0)
            self.fails(InvalidInputs, lambda: run(two, value, (1, 2)), index=0)
            self.fails(InvalidInputs, lambda: run(two, (1, 2), value), index=1)
            self.fails(InvalidInputs, lambda: run(two, value, value), index=0)

    def test_other_lengths(self):
        net = Net.read("input a\ninput b\ninput c\noutput a")
        for rows, at in ((((1, 2), (1,), (1, 2)), 1), (((1, 2), (1, 2), (1,)), 2), (((1,), (1, 2), (1, 2)), 1),
                         (((), (1,), ()), 1), (((1,), (), ()), 1), (((), (), (1,)), 2), (((1, 2), (3, 4, 5), "x"), 1),
                         (((1, 2), [1, 2], (1,)), 1), (((1, True), (1,), ()), 0), (((1, 2), (1, True), (1,)), 1)):
            self.fails(InvalidInputs, lambda: run(net, *rows), index=at)


class AnswersTest(RunCase):
    def test_against_runs_of_the_single_one(self):
        for text in TEXTS[:90]:
            net = Net.read(text)
            for source in range(len(net.inputs)):
                for index in (0, 1, net.period, 7):
                    self.check(net, source, index, 4)

    def test_late_ones(self):
        for net in (joined(), running_sum(), Net.read(TWO)):
            self.check(net, 0, 200, min(200, 202 // net.period))
            self.check(net, len(net.inputs) - 1, 40, 30)
        self.check(running_sum(), 0, 3, 200)

    def check(self, net, source, index, until):
        """Check each block against a run."""
        times = until * net.period
        rows = [[0] * times for _ in net.inputs]
        if index < times:
            rows[source][index] = 1
        whole = run(net, *[tuple(row) for row in rows])
        blocks = list(answers(net, source, index, until=until))
        self.assertEqual(len(blocks), until)
        sizes = [net.period * net.rate(name)[0] // net.rate(name)[1] for name in net.outputs]
        for number, block in enumerate(blocks):
            self.shape(block, sizes)
            for row, size, shown in zip(whole, sizes, block):
                self.assertEqual(row[number * size:(number + 1) * size], shown)

    def test_a_generator(self):
        given = answers(joined(), 0, 1, until=3)
        self.assertTrue(inspect.isgenerator(given))
        self.assertEqual(str(next(given)), "((Number(0), Number(0)),)")
        self.assertEqual(str(next(given)), "((Number(1), Number(0)),)")
        self.assertEqual(str(next(given)), "((Number(0), Number(0)),)")
        self.assertEqual(list(given), [])

    def test_no_blocks(self):
        self.assertEqual(list(answers(joined(), 0, 0, until=0)), [])

    def test_by_name(self):
        one = list(answers(net=halves(), source=0, index=1, until=2))
        self.assertEqual(one, list(answers(halves(), 0, 1, until=2)))
        with self.assertRaises(TypeError):
            next(answers(halves(), 0, 1, 2))

    def test_after_the_last_block(self):
        self.assertEqual(str(list(answers(running_sum(), 0, 2, until=2))), "[((Number(0),),), ((Number(0),),)]")

    def test_errors(self):
        net = Net.read(TWO)
        for value in no_nets():
            self.fails(NotANet, lambda: next(answers(value, 9, 9, until=9)), value=value)
        strange = [*plain_values(), *number_values(), *signal_values(), -1]
        for value in strange + [2, 3]:
            self.fails(InvalidCount, lambda: next(answers(net, value, "index", until="until")), value=value)
        for value in strange + [201, 1000, 10 ** 39]:
            self.fails(InvalidCount, lambda: next(answers(net, 1, value, until="until")), value=value)
            self.fails(InvalidCount, lambda: next(answers(net, 1, 200, until=value)), value=value)
            self.fails(InvalidCount, lambda: next(answers(net, 0, 0, until=value)), value=value)
        self.fails(InvalidCount, lambda: next(answers(joined(), 1, 0, until=1)), value=1)
        self.fails(InvalidCount, lambda: next(answers(net, 2, 0, until=0)), value=2)
        self.fails(InvalidCount, lambda: next(answers(net, 0, 201, until=0)), value=201)


if __name__ == "__main__":
    unittest.main()
