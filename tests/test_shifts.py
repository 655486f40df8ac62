import random
import unittest
from fractions import Fraction

from delaynets.catalog import filled, halves, held, joined, running_sum, thinned
from delaynets.errors import InvalidCount, InvalidTime, NotANet
from delaynets.nets import Net
from delaynets.shifts import copy_of, keeps_time, least_shift
from tests import deciding
from tests.examples import WRITTEN, thrown
from tests.helpers import PromiseTest, number_values, plain_values, signal_values
from tests.rewriting import changed, otherwise, same
from tests.test_runs import no_nets, one_net

TEXTS = WRITTEN + thrown(160, 91)
# Nets whose period is greater than the least shift.
SLOW = [
    "input x\ny = spread(every(x, 2), 3)\noutput y",
    "input x\na = every(x, 2)\nb = every(late(x, 1), 2)\ny = sum(late(spread(a, 2), 2), late(spread(b, 2), 1))\noutput y",
    "input x\na = spread(every(x, 6), 6)\ny = sum(times(0, a), x)\noutput y",
    "input x\na = spread(every(x, 6), 6)\ny = sum(times(0, a), spread(every(x, 2), 2))\noutput y",
    "input x\na = spread(every(x, 6), 6)\ny = sum(times(0, a), spread(every(x, 3), 3))\noutput y",
    "input x\na = spread(every(x, 4), 4)\nb = spread(every(late(x, 2), 4), 4)\ny = sum(late(a, 4), late(b, 2))\noutput y",
    "input x\na = every(every(x, 2), 3)\nb = late(spread(every(x, 3), 3), 2)\noutput b",
    "input x\na = every(x, 3)\noutput x",
    "input x\na = every(x, 5)\nb = times(0, spread(a, 5))\noutput b",
    "input x\na = times(0, every(x, 2))\nb = spread(every(x, 6), 6)\noutput a",
    "input x\na = times(0, every(x, 2))\nb = spread(every(x, 6), 6)\noutput a\noutput x",
    "input x\na = late(x, 2)\nb = spread(every(a, 3), 3)\ny = sum(a, b)\noutput y",
    "input x\na = late(x, 2)\nb = spread(every(a, 5), 5)\ny = sum(a, b)\noutput y",
    "input x\na = spread(every(x, 3), 2)\nb = every(every(x, 3), 1)\nc = times(0, every(every(x, 3), 2))\noutput a",
]


def copies(text):
    """For each output and input how late the output is; None if it is no copy, by the answers to single 1s."""
    net = deciding.answers_of(text)
    until = net.period * (2 * net.kept + 3)
    found = {}
    for output in range(len(net.rates)):
        for source in range(net.many):
            lates = [late for late in range(net.kept + 2) if net.rates[output] == 1
                     and is_late(net, output, source, late, until)]
            found[output, source] = lates[0] if lates else None
    return found


def is_late(net, output, source, late, until):
    return all(net.rows(other, index, until)[output]
               == [Fraction(other == source and at == index + late) for at in range(until)]
               for other in range(net.many) for index in range(net.period))


class ShiftsTest(PromiseTest):
    def test_the_example_of_the_document(self):
        self.assertEqual([least_shift(joined()), joined().period, copy_of(joined(), 0, 0), least_shift(held(3)),
                          keeps_time(thinned(2), 3), copy_of(held(2), 0, 0)], [1, 2, 1, 3, False, None])

    def check(self, text):
        other, net = deciding.answers_of(text), Net.read(text)
        shift = least_shift(net)
        self.assertIs(shift.__class__, int)
        self.assertEqual(shift, deciding.least_shift(other), text)
        for count in range(1, 13):
            self.assertIs(keeps_time(net, count), deciding.keeps_time(other, count), (text, count))
            self.assertIs(keeps_time(net, count), count % shift == 0)

    def test_against_single_ones_and_the_same_later(self):
        for text in TEXTS:
            self.check(text)

    def test_periods_greater_than_the_least_shift(self):
        shifts = [least_shift(Net.read(text)) for text in SLOW]
        self.assertEqual(shifts, [2, 1, 1, 2, 3, 2, 3, 1, 1, 2, 2, 3, 5, 3])
        for text in SLOW:
            self.check(text)

    def test_the_same_written_otherwise(self):
        chance = random.Random(92)
        for text in TEXTS[::3] + SLOW:
            other = same(text, chance)
            self.assertEqual(least_shift(Net.read(text)), least_shift(Net.read(other)), (text, other))

    def test_rates_of_outputs(self):
        for step in range(1, 7):
            self.assertEqual(least_shift(one_net(f"every(x, {step})")), step)
            self.assertEqual(least_shift(one_net(f"times(0, every(x, {step}))")), step)
            self.assertEqual(least_shift(one_net(f"spread(x, {step})")), 1)

    def test_by_name(self):
        self.assertIs(keeps_time(count=6, net=held(3)), True)
        self.assertEqual(least_shift(net=held(3)), 3)
        self.assertEqual(copy_of(source=0, output=0, net=joined()), 1)

    def test_no_net(self):
        for value in no_nets():
            self.fails(NotANet, lambda: keeps_time(value, 0), value=value)
            self.fails(NotANet, lambda: least_shift(value), value=value)
            self.fails(NotANet, lambda: copy_of(value, 7, 7), value=value)

    def test_wrong_times(self):
        for value in [*plain_values(), *number_values(), *signal_values(), halves(), 0, -1, 13, 24, -12, 10 ** 39]:
            self.fails(InvalidTime, lambda: keeps_time(held(1), value), value=value)


class CopyTest(PromiseTest):
    def check(self, text):
        net = Net.read(text)
        for (output, source), late in copies(text).items():
            got = copy_of(net, output, source)
            self.assertEqual(got, late, (text, output, source))
            self.assertIs(got.__class__, late.__class__)

    def test_all_outputs_and_inputs(self):
        for text in TEXTS[::2] + SLOW:
            self.check(text)

    def test_late_by_some_samples(self):
        for count in range(9):
            text = f"input z\ninput x\ny = late(late(x, {min(count, 6)}), {max(count - 6, 0)})\noutput z\noutput y"
            self.assertEqual(copy_of(Net.read(text), 1, 1), count)
            self.assertIs(copy_of(Net.read(text), 1, 0), None)
            self.assertEqual(copy_of(Net.read(text), 0, 0), 0)
            self.assertIs(copy_of(Net.read(text), 0, 1), None)
            self.check(text)

    def test_copies_written_otherwise(self):
        chance = random.Random(93)
        for count in range(4):
            for text in ("input x\ninput z\ny = sum(late(x, 0), spread(every(z, 2), 2))\nw = sum(y, times(-1, "
                         f"spread(every(z, 2), 2)))\nv = late(w, {count})\noutput y\noutput v",
                         "input x\na = spread(every(x, 2), 2)\nb = late(spread(every(late(x, 1), 2), 2), 0)\n"
                         f"c = late(a, {count + 1})\nd = sum(c, late(b, {count}))\noutput d"):
                text = "\n".join(sorted(text.split("\n"), key=lambda line: (line[:5] != "input", line[:6] == "output")))
                lines = text.split("\n")
                text = "\n".join([line for line in lines if line.startswith("input ")]
                                 + sorted(line for line in lines if " = " in line)
                                 + [line for line in lines if line.startswith("output ")])
                self.check(text)
                self.check(changed(text, chance, 4, otherwise))

    def test_what_is_nearly_a_copy(self):
        for definition in ("times(2, x)", "times(-1, x)", "times(99/98, late(x, 1))", "sum(x, late(x, 3))", "times(0, x)",
                           "spread(every(x, 2), 2)", "late(spread(every(x, 2), 2), 1)", "sum(x, late(y, 2))",
                           "every(late(spread(x, 2), 1), 2)", "every(spread(x, 2), 1)", "every(x, 2)", "spread(x, 2)"):
            self.assertIs(copy_of(one_net(definition), 0, 0), None, definition)
            self.check(f"input x\ny = {definition}\noutput y")
        slow = "input x\na = spread(every(x, 6), 6)\nb = every(x, 6)\n"
        late = slow + "c = spread(late(late(b, 6), 1), 6)\ny = sum(x, c)\noutput y"
        self.assertIs(copy_of(Net.read(late), 0, 0), None)
        self.check(late)
        self.assertIs(copy_of(Net.read("input x\ninput z\ny = sum(x, late(z, 6))\noutput y"), 0, 0), None)
        self.assertIs(copy_of(Net.read("input x\ninput z\ny = sum(x, z)\noutput y"), 0, 1), None)

    def test_outputs_that_are_always_0_or_have_another_rate(self):
        for net in (one_net("times(0, x)"), one_net("sum(x, times(-1, x))"), thinned(2), filled(2), halves(),
                    Net.read("input x\ny = every(late(spread(x, 2), 1), 2)\noutput y")):
            for output in range(len(net.outputs)):
                self.assertIs(copy_of(net, output, 0), None)
        self.assertEqual(copy_of(thinned(1), 0, 0), 0)
        self.assertEqual(copy_of(filled(1), 0, 0), 0)
        self.assertEqual(copy_of(held(1), 0, 0), 0)
        self.assertIs(copy_of(running_sum(), 0, 0), None)

    def test_wrong_numbers(self):
        net = Net.read("input x\ninput z\na = every(x, 2)\noutput x\noutput z\noutput a")
        for value in [*plain_values(), *number_values(), *signal_values(), net, -1, 3, 4, 10 ** 39]:
            self.fails(InvalidCount, lambda: copy_of(net, value, 0), value=value)
            self.fails(InvalidCount, lambda: copy_of(net, value, value), value=value)
            self.fails(InvalidCount, lambda: copy_of(net, value, 7), value=value)
            self.fails(InvalidCount, lambda: copy_of(net, 0, value), value=value)
            self.fails(InvalidCount, lambda: copy_of(net, 2, value), value=value)
        self.fails(InvalidCount, lambda: copy_of(net, 0, 2), value=2)
        self.assertIs(copy_of(net, 2, 1), None)


if __name__ == "__main__":
    unittest.main()
