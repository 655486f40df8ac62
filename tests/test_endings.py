import random
import unittest
from fractions import Fraction

from delaynets.catalog import filled, halves, held, joined, running_sum, thinned
from delaynets.endings import ends, length_of, settles
from delaynets.errors import NotANet
from delaynets.machines import normal_machine
from delaynets.nets import Net
from delaynets.numbers import Number
from tests import deciding
from tests.examples import WRITTEN, thrown
from tests.helpers import PromiseTest
from tests.reckoning import fractions
from tests.rewriting import same
from tests.test_runs import no_nets, one_net

TEXTS = WRITTEN + thrown(160, 131)


def ring(*shares, shown="output y"):
    """The text of a net that adds to its input some multiples of its last samples."""
    names = [f"a{at}" for at in range(1, len(shares) + 1)]
    lines = [f"{name} = late({before}, 1)" for name, before in zip(names, ["y", *names])]
    terms = ", ".join(f"times({share}, {name})" for share, name in zip(shares, names))
    return "\n".join(["input x", *lines, f"y = sum(x, {terms})", shown])


def gaps(text):
    """How long after single 1s there are samples other than 0; None if that never ends."""
    one = deciding.answers_of(text)
    until = one.period * (2 * one.kept + 4)
    found = [index / rate - at for source in range(one.many) for at in range(one.period)
             for rate, row in zip(one.rates, one.rows(source, at, until)) for index, number in enumerate(row) if number]
    return None if max(found, default=0) > one.period * (one.kept + 1) else found


def lead_of(net):
    """The table that leads the kept numbers of the tick 0 over a turn, as floats."""
    machine = normal_machine(net)
    size = machine.sizes[0]
    rows = [[Fraction(int(at == to)) for to in range(size)] for at in range(size)]
    for step in machine.steps:
        rows = [[sum((one * line[to] for one, line in zip(row, rows)), Fraction(0)) for to in range(size)]
                for row in fractions(step[0])]
    return [[float(entry) for entry in row] for row in rows]


def goes_to_zero(rows):
    """Whether the powers of a table of floats seem to go to 0."""
    for _ in range(16):
        rows = [[sum(one * line[to] for one, line in zip(row, rows)) for to in range(len(rows))] for row in rows]
        size = max((abs(entry) for row in rows for entry in row), default=0)
        if size > 1e100 or size < 1e-100:
            break
    return max((abs(entry) for row in rows for entry in row), default=0) < 1e-3


class EndingsTest(PromiseTest):
    def tells(self, text, ending, length, settling):
        net = Net.read(text)
        self.assertIs(ends(net), ending, text)
        got = length_of(net)
        if length is None:
            self.assertIs(got, None, text)
        else:
            self.assertIs(got.__class__, Number)
            self.assertEqual(str(got), length, text)
        self.assertIs(settles(net), settling, text)

    def test_the_example_of_the_document(self):
        slow = Net.read("input x\ny = sum(x, times(-1/2, late(y, 1)))\noutput y")
        self.assertEqual([ends(joined()), str(length_of(joined())), str(length_of(halves())), ends(slow), settles(slow),
                          settles(running_sum())], [True, "1", "1", False, True, False])

    def test_chains(self):
        self.tells("input x\noutput x", True, "0", True)
        self.tells(str(thinned(4)), True, "0", True)
        self.tells(str(filled(4)), True, "0", True)
        self.tells(str(held(4)), True, "3", True)
        self.tells("input x\ny = late(late(x, 6), 2)\noutput y", True, "8", True)
        self.tells("input x\ny = late(late(every(x, 6), 6), 2)\noutput y", True, "48", True)
        self.tells("input x\ny = late(spread(x, 6), 5)\noutput y", True, "5/6", True)
        self.tells("input x\ny = every(late(spread(x, 3), 2), 2)\noutput y", True, "2/3", True)
        self.tells("input x\ny = late(every(late(spread(x, 3), 1), 2), 1)\noutput y", True, "1", True)
        self.tells("input x\ny = sum(late(x, 1), every(late(x, 3), 1))\nz = late(x, 4)\noutput z\noutput x", True, "4", True)
        self.tells("input x\ny = every(late(x, 3), 4)\noutput y", True, "3", True)

    def test_chains_that_lose_all_samples(self):
        for definition in ("times(0, x)", "every(late(spread(x, 2), 1), 2)", "late(sum(x, times(-1, x)), 3)",
                           "every(late(spread(x, 6), 4), 6)", "sum(late(x, 1), times(-1, every(late(x, 1), 1)))"):
            self.tells(f"input x\ny = {definition}\noutput y", True, None, True)
        self.tells("input x\ny = late(sum(y, times(0, x)), 1)\noutput y", True, None, True)

    def test_rings_with_one_delay(self):
        for share in ("0", "1/99", "1/2", "98/99", "-98/99", "-1/2"):
            self.tells(ring(share), share == "0", "0" if share == "0" else None, True)
        for share in ("1", "-1", "99/98", "-99/98", "2", "-99"):
            self.tells(ring(share), False, None, False)

    def test_rings_with_two_delays_at_their_edges(self):
        shares = ["0", "1/2", "-1/2", "1", "-1", "3/2", "-3/2", "2", "-2", "49/50", "-49/50", "1/3", "97/98", "-97/98"]
        for one in shares:
            for other in shares:
                first, second = Fraction(one), Fraction(other)
                # The roots of z * z - first * z - second are below 1 just then.
                wanted = abs(second) < 1 and abs(first) < 1 - second
                nothing = first == second == 0
                self.tells(ring(one, other), nothing, "0" if nothing else None, wanted)

    def test_rings_with_three_delays_at_their_edges(self):
        for roots in ((Fraction(1, 2), Fraction(-1, 3), Fraction(1, 4)), (Fraction(1), Fraction(-1, 3), Fraction(1, 2)),
                      (Fraction(9, 10), Fraction(9, 10), Fraction(1, 2)), (Fraction(-1), Fraction(1, 2), Fraction(1, 2)),
                      (Fraction(-9, 10), Fraction(1, 2), Fraction(0)), (Fraction(2), Fraction(1, 2), Fraction(1, 4)),
                      (Fraction(2), Fraction(1, 2), Fraction(1)), (Fraction(3, 2), Fraction(-3, 2), Fraction(0)),
                      (Fraction(0), Fraction(0), Fraction(1, 5)), (Fraction(2), Fraction(-1, 2), Fraction(0))):
            a, b, c = roots
            shares = [a + b + c, -(a * b + a * c + b * c), a * b * c]
            if all(abs(share.numerator) <= 99 and share.denominator <= 99 for share in shares):
                self.tells(ring(*shares), False, None, max(map(abs, roots)) < 1)
        for share, wanted in (("98/99", True), ("1", False), ("-1", False), ("-98/99", True), ("99/98", False)):
            self.tells(f"input x\ny = sum(x, times({share}, late(y, 3)))\noutput y", False, None, wanted)
            self.tells(f"input x\ny = sum(x, times({share}, late(y, 3)))\nz = every(y, 3)\noutput z", False, None, wanted)
            self.tells(f"input x\ny = sum(x, times({share}, late(y, 3)))\nz = every(y, 2)\noutput z", False, None, wanted)
        # Here z * z - z + 1 has roots of the absolute value 1; and twice the root 1 grows without a bound.
        self.tells(ring("1", "-1"), False, None, False)
        self.tells(ring("2", "-1"), False, None, False)

    def test_multiples_that_are_0_at_some_indexes_alone(self):
        text = "input x\nb = times(5, late(y, 1))\nc = spread(every(b, 2), 2)\ny = sum(x, c)\noutput y"
        self.tells(text, True, "1", True)
        self.tells(text.replace("2), 2)", "3), 3)"), True, "1", True)
        text = "input x\nb = times(2, late(y, 1))\nc = spread(every(late(b, 1), 2), 2)\ny = sum(x, c)\noutput y"
        self.tells(text, False, None, False)
        self.tells(text.replace("times(2", "times(1/2"), False, None, True)
        self.tells(text.replace("times(2", "times(1"), False, None, False)
        three = "input x\nb = late(y, 1)\nc = late(spread(every(b, 3), 3), 1)\ny = sum(x, times(7, c))\noutput y"
        self.tells(three, True, "2", True)

    def test_rings_at_several_rates(self):
        for share, wanted in (("0", True), ("1/2", True), ("1", False), ("-1", False), ("3", False)):
            for text in (f"input x\na = sum(every(x, 2), times({share}, late(a, 1)))\nb = spread(a, 2)\noutput b",
                         f"input x\na = sum(every(x, 3), times({share}, late(a, 2)))\noutput a",
                         f"input x\na = sum(spread(x, 3), times({share}, late(a, 2)))\noutput a",
                         f"input x\na = sum(spread(x, 3), times({share}, late(a, 1)))\nb = every(a, 3)\noutput b",
                         f"input x\na = sum(x, times({share}, late(a, 1)))\nb = every(a, 2)\noutput b",
                         f"input x\na = sum(x, times({share}, late(a, 1)))\nb = every(a, 3)\nc = late(b, 1)\noutput c"):
                net = Net.read(text)
                self.assertIs(ends(net), share == "0", text)
                self.assertIs(settles(net), wanted, text)
                self.assertIs(length_of(net) is None, share != "0")

    def test_growth_that_is_not_shown(self):
        double = "a = sum(x, times(3, late(a, 1)))\n"
        self.tells(f"input x\n{double}output x", True, "0", True)
        self.tells(f"input x\n{double}b = sum(a, times(-1, a))\noutput b", True, None, True)
        cancelled = f"input x\n{double}b = sum(x, late(times(3, b), 1))\nc = sum(late(x, 2), a, times(-1, b))\noutput c"
        self.tells(cancelled, True, "2", True)
        self.tells(cancelled.replace("times(3, b)", "times(2, b)"), False, None, False)
        self.tells(f"input x\n{double}b = sum(a, times(-3, late(a, 1)))\noutput b", True, "0", True)
        # 1/2 and 3 are cancelled to the left and to the right.
        half = "a = sum(x, times(-3, late(x, 1)))\nb = sum(a, times(3, late(b, 1)), times(1/2, late(a, 0)))\n"
        self.tells(f"input x\n{half}output b", True, "0", True)

    def test_the_same_as_all_answers(self):
        for text in TEXTS:
            net, found = Net.read(text), gaps(text)
            self.assertIs(ends(net), found is not None, text)
            longest = length_of(net)
            self.assertEqual(longest and str(longest), str(max(found)) if found else None, text)
            self.assertIs(settles(net), goes_to_zero(lead_of(net)), text)
            if found is not None:
                self.assertIs(settles(net), True)

    def test_the_same_written_otherwise(self):
        chance = random.Random(132)
        for text in TEXTS[::2]:
            other = same(text, chance)
            one, two = Net.read(text), Net.read(other)
            self.assertEqual((ends(one), settles(one)), (ends(two), settles(two)))
            self.assertEqual(str(length_of(one)), str(length_of(two)))

    def test_by_name(self):
        self.assertIs(ends(net=joined()), True)
        self.assertIs(settles(net=joined()), True)
        self.assertEqual(length_of(net=joined()), Number(1))

    def test_no_net(self):
        for value in no_nets():
            for function in (ends, length_of, settles):
                self.fails(NotANet, lambda: function(value), value=value)

    def test_eight_numbers(self):
        for share, wanted in (("97/98", True), ("1", False)):
            self.tells(f"input x\ny = sum(x, times({share}, late(late(y, 6), 2)))\noutput y", False, None, wanted)
        self.assertEqual(str(length_of(one_net("sum(x, late(late(x, 6), 2))"))), "8")


if __name__ == "__main__":
    unittest.main()
