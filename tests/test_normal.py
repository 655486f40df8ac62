import random
import unittest
from fractions import Fraction

from delaynets.alike import alike
from delaynets.catalog import filled, halves, held, joined, running_sum, thinned
from delaynets.errors import NotANet
from delaynets.machines import Machine, kept_numbers, normal_machine
from delaynets.nets import Net
from delaynets.numbers import Number
from delaynets.runs import run
from tests import deciding
from tests.examples import WRITTEN, thrown
from tests.helpers import PromiseTest
from tests.reckoning import fractions
from tests.rewriting import near, same, shape
from tests.test_runs import no_nets, one_net

TEXTS = WRITTEN + thrown(160, 111)
ONE = ((1, 1),)
RINGS = [
    "input x\na = times(1/2, late(b, 1))\nb = sum(x, every(late(spread(a, 2), 2), 2), late(a, 1))\noutput b",
    "input x\na = sum(every(x, 2), times(2/3, late(a, 1)))\nb = sum(spread(a, 2), late(b, 2))\noutput b",
    "input x\na = spread(x, 3)\nb = sum(a, times(-1/2, late(b, 2)))\nc = every(b, 2)\noutput c\noutput x",
    "input x\ninput z\na = sum(every(x, 3), late(a, 1), every(z, 3))\nb = spread(a, 2)\noutput b",
    "input x\na = sum(x, times(3/2, late(a, 1)))\nb = sum(x, late(times(3/2, b), 1))\nc = sum(a, times(-1, b))\noutput c",
    "input x\na = sum(x, late(b, 1))\nb = sum(late(a, 1), times(-1/3, late(b, 2)))\noutput b\noutput a",
]


def numbers(text):
    """A table, written like 1 2/3; 0 1, with rows between the semicolons; an empty text has no rows."""
    if not text:
        return ()
    return tuple(tuple(Number.read(word) for word in row.split()) for row in text.split(";"))


def machine(outputs, *steps):
    return Machine(ONE, outputs, tuple(tuple(numbers(table) for table in step) for step in steps))


class NormalTest(PromiseTest):
    def test_the_example_of_the_document(self):
        self.assertEqual([kept_numbers(running_sum()), kept_numbers(joined()), joined().kept, kept_numbers(held(3)),
                          kept_numbers(halves()), repr(normal_machine(halves()))],
                         [(1,), (1,), 4, (0, 1, 1), (1, 0), "Machine(2 steps, at most 1 numbers)"])

    def test_machines_by_hand(self):
        self.equal(normal_machine(running_sum()), machine(ONE, ("1", "1", "1", "1")))
        self.equal(normal_machine(joined()), machine(ONE, ("0", "1", "1", "0")))
        self.equal(normal_machine(one_net("late(x, 2)")), machine(ONE, ("0 1; 0 0", "0; 1", "1 0", "0")))
        self.equal(normal_machine(one_net("late(late(x, 1), 2)")),
                   machine(ONE, ("0 1 0; 0 0 1; 0 0 0", "0; 0; 1", "1 0 0", "0")))
        self.equal(normal_machine(held(2)), Machine(ONE, ONE, (
            (((),), ((1,),), ((),), ((1,),)), ((), (), ((1,),), ((0,),)))))
        self.equal(normal_machine(held(3)), Machine(ONE, ONE, (
            (((),), ((1,),), ((),), ((1,),)), (((1,),), ((0,),), ((1,),), ((0,),)), ((), (), ((1,),), ((0,),)))))
        self.equal(normal_machine(held(1)), Machine(ONE, ONE, (((), (), ((),), ((1,),)),)))
        self.equal(normal_machine(thinned(2)), Machine(ONE, ((1, 2),), (((), (), ((),), ((1,),)), ((), (), (), ()))))
        self.equal(normal_machine(filled(3)), Machine(ONE, ((3, 1),), (
            ((), (), ((),), ((1,),)), ((), (), ((),), ((),)), ((), (), ((),), ((),)))))
        # Before an even time the sample before is kept as it will be shown first: in the sum.
        self.equal(normal_machine(halves()), Machine(ONE, ((1, 2), (1, 2)), (
            ((), (), ((1,), (-1,)), ((1,), (1,))), (((),), ((1,),), (), ()))))

    def test_kept_as_they_will_be_shown(self):
        net = Net.read("input x\ny = sum(times(2, late(x, 1)), times(3, late(x, 2)))\noutput y")
        # The free answers are 2 x[t-1] + 3 x[t-2], then 3 x[t-1].
        self.equal(normal_machine(net), machine(ONE, ("0 1; 0 0", "2; 3", "1 0", "0")))
        net = Net.read("input x\na = late(x, 1)\nb = spread(a, 2)\noutput a\noutput b")
        self.equal(normal_machine(net), Machine(ONE, ((1, 1), (2, 1)), (
            (((0,),), ((1,),), ((1,), (1,)), ((0,), (0,))), (((1,),), ((),), ((0,),), ((),)))))
        net = Net.read("input x\na = late(x, 1)\nb = every(late(x, 2), 2)\noutput b\noutput a")
        self.assertEqual(kept_numbers(net), (2, 1))
        later = Net.read("input x\ny = sum(x, times(1/2, late(y, 1)))\nz = late(y, 1)\noutput z")
        self.equal(normal_machine(later), machine(ONE, ("1/2", "1", "1", "0")))

    def test_outputs_in_order(self):
        one = Net.read("input x\na = late(x, 1)\nb = times(5, a)\noutput a\noutput b")
        other = Net.read("input x\na = late(x, 1)\nb = times(5, a)\noutput b\noutput a")
        self.equal(normal_machine(one), machine(((1, 1), (1, 1)), ("0", "1", "1; 5", "0; 0")))
        self.equal(normal_machine(other), machine(((1, 1), (1, 1)), ("0", "5", "1; 1/5", "0; 0")))

    def test_runs(self):
        chance = random.Random(112)
        for text in TEXTS + RINGS:
            net = Net.read(text)
            normal = normal_machine(net)
            self.assertEqual(normal.input_rates, ONE * len(net.inputs))
            self.assertEqual(normal.output_rates, tuple(net.rate(name) for name in net.outputs))
            for until in (0, 1, 2 * net.period + chance.randint(0, 5)):
                rows = [tuple(chance.choice((0, 1, -3, 5, Number(2, 7))) for _ in range(until)) for _ in net.inputs]
                self.assertEqual(normal.run(until, *rows), run(net, *rows), text)

    def test_as_many_as_the_rows_of_answers_that_do_not_depend_on_others(self):
        chance = random.Random(113)
        for text in TEXTS + RINGS:
            other, net = deciding.answers_of(text), Net.read(text)
            normal = normal_machine(net)
            self.assertEqual(kept_numbers(net), normal.sizes)
            self.assertEqual(normal.turn, deciding.least_shift(other), text)
            self.assertEqual(len(normal.steps), normal.turn * other.per_unit)
            ticks = range(len(normal.steps))
            for tick in chance.sample(ticks, min(len(ticks), 8)):
                late, chosen = deciding.kept_samples(other, tick, normal.turn)
                self.assertEqual(normal.sizes[tick], len(chosen), (text, tick))
                self.assertLessEqual(normal.sizes[tick], net.kept)
                self.check_numbers(other, normal, late, chosen, chance)

    def check_numbers(self, other, normal, late, chosen, chance):
        """Check that just these output samples are kept before the tick, if no sample but 0 comes from it on."""
        begun = -(-late // other.per_unit)
        rows = [tuple(chance.randint(-9, 9) for _ in range(begun)) for _ in range(other.many)]
        _, states = deciding.walk(normal, begun, rows)
        until = max([begun, *[int(index / other.rates[output]) + 1 for output, index in chosen]])
        shown = other.net.run(*[row + (0,) * (until - begun) for row in rows])
        self.assertEqual(states[late], [shown[output][index] for output, index in chosen])

    def test_the_same_for_nets_that_are_alike(self):
        chance = random.Random(114)
        for text in TEXTS[::2] + RINGS:
            other = same(text, chance)
            self.equal(normal_machine(Net.read(text)), normal_machine(Net.read(other)))

    def test_another_one_for_nets_that_are_not_alike(self):
        chance = random.Random(115)
        count = 0
        for text in TEXTS + RINGS:
            other = near(text, chance)
            if shape(text) == shape(other):
                one, two = Net.read(text), Net.read(other)
                if deciding.joint_period(deciding.answers_of(text), deciding.answers_of(other)) <= 12:
                    are_alike = alike(one, two)
                    self.assertIs(normal_machine(one) == normal_machine(two), are_alike, (text, other))
                    count += not are_alike
        self.assertGreater(count, 40)

    def test_nothing_is_kept_where_nothing_depends_on_it(self):
        for text, sizes in (("input x\nunused = late(late(x, 3), 5)\noutput x", (0,)),
                            ("input x\na = late(x, 6)\ny = times(0, a)\noutput y", (0,)),
                            ("input x\na = late(x, 2)\ny = sum(a, times(-1, late(x, 2)))\noutput y", (0,)),
                            ("input x\na = every(late(x, 3), 6)\noutput a", (1, 0, 0, 0, 1, 1)),
                            ("input x\na = late(every(x, 3), 2)\noutput a", (2, 2, 2)),
                            ("input x\na = spread(late(every(x, 2), 1), 2)\noutput a", (1, 1))):
            self.assertEqual(kept_numbers(Net.read(text)), sizes)

    def test_ticks_at_which_samples_are_shown_and_nothing_changes(self):
        text = "input x\nw = late(z, 1)\ny = spread(every(w, 2), 2)\nz = sum(spread(x, 2), w, times(-1, y))\noutput z"
        self.equal(normal_machine(Net.read(text)), Machine(ONE, ((2, 1),), (
            (((),), ((1,),), ((),), ((1,),)), ((), (), ((1,),), ((),)))))
        third = text.replace("every(w, 2), 2", "every(w, 3), 3").replace("spread(x, 2)", "spread(x, 3)")
        self.assertEqual(kept_numbers(Net.read(third)), (0, 1, 1))
        fast = Net.read("input x\nz = sum(spread(x, 3), late(z, 1))\noutput z")
        self.assertEqual(kept_numbers(fast), (1, 1, 1))

    def test_states_that_no_input_leads_to(self):
        # The ring repeats what never comes in: its kept sample stays 0.
        net = Net.read("input x\ny = sum(x, z)\nz = late(sum(z, times(0, x)), 1)\noutput y")
        self.assertEqual(kept_numbers(net), (0,))

    def test_many_ticks(self):
        net = Net.read("input x\na = spread(spread(x, 3), 3)\nb = sum(late(spread(x, 5), 1), times(1/2, late(b, 3)))\n"
                       "c = spread(spread(x, 4), 2)\nd = every(x, 6)\noutput a\noutput b\noutput c")
        normal = normal_machine(net)
        self.assertEqual((len(normal.steps), normal.turn, max(normal.sizes)), (360, 1, 3))
        rows = tuple(range(1, 8))
        self.assertEqual(normal.run(7, rows), run(net, rows))

    def test_by_name_and_equal_calls(self):
        self.equal(normal_machine(net=held(3)), normal_machine(held(3)))
        self.assertEqual(kept_numbers(net=held(3)), (0, 1, 1))

    def test_no_net(self):
        for value in no_nets():
            self.fails(NotANet, lambda: normal_machine(value), value=value)
            self.fails(NotANet, lambda: kept_numbers(value), value=value)

    def test_exactness(self):
        net = Net.read("input x\ny = sum(x, times(98/99, late(y, 1)))\noutput y")
        got = normal_machine(net).run(30, (1,) + (0,) * 29)
        self.assertEqual(fractions(got)[0], tuple(Fraction(98, 99) ** at for at in range(30)))


if __name__ == "__main__":
    unittest.main()
