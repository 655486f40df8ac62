import itertools
import random
import unittest
from fractions import Fraction

from delaynets.catalog import filled, halves, held, joined, running_sum, thinned
from delaynets.errors import NotANet
from delaynets.machines import Machine
from delaynets.nets import Net
from delaynets.numbers import Number
from delaynets.runs import run
from delaynets.telling import lost_input, teller, told_back
from tests import deciding
from tests.examples import WRITTEN, thrown
from tests.helpers import PromiseTest
from tests.reckoning import fractions, net_in
from tests.rewriting import same
from tests.test_runs import no_nets, one_net

TEXTS = WRITTEN + thrown(160, 141)
WORDS = ("late({0}, {1})", "late({0}, {1})", "times(2, {0})", "times(-1/3, {0})", "{0}", "sum({0}, late({0}, {1}))",
         "spread({0}, 2)", "spread({0}, 3)", "late(every({0}, 2), 1)", "every({0}, 3)", "every(late({0}, 1), 2)",
         "spread(every({0}, 2), 2)", "sum({0}, times(1/2, late(spread(every({0}, 2), 2), 1)))")


def shown_inputs(count, seed):
    """Texts of nets whose outputs show inputs in some way, or sums of them."""
    chance = random.Random(seed)
    texts = []
    while len(texts) < count:
        inputs = ["x", "z", "w"][:chance.choice((1, 1, 2, 2, 3))]
        definitions = {}
        for name in ["a", "b", "c", "d", "e"][:chance.randint(1, 5)]:
            usable = [*inputs, *definitions]
            first = chance.choice(WORDS).format(chance.choice(usable), chance.randint(1, 3))
            if chance.random() < 0.4:
                first = f"sum({first}, {chance.choice(WORDS).format(chance.choice(usable), chance.randint(1, 3))})"
            if chance.random() < 0.2:
                first = f"sum({first}, times({chance.choice(('1', '-1/2', '2'))}, late({name}, 1)))"
            definitions[name] = first
        names = [*inputs, *definitions]
        outputs = chance.sample(names[-4:], min(chance.choice((1, 2, 3, 3)), len(names[-4:])))
        text = "\n".join([f"input {name}" for name in inputs] + [f"{name} = {definitions[name]}" for name in definitions]
                         + [f"output {name}" for name in outputs])
        net = net_in(text)
        if net and net.verdict() == ():
            texts.append(text)
    return texts


def mixed_inputs(count, seed):
    """Texts of nets with as many outputs as inputs, which are made late and added to one another in some steps."""
    chance = random.Random(seed)
    texts = []
    while len(texts) < count:
        inputs = ["x", "y", "z"][:chance.choice((1, 2, 2, 3))]
        now = list(inputs)
        lines = []
        for name in "abcdef"[:chance.randint(1, 6)]:
            at, other = chance.randrange(len(now)), chance.choice(now)
            share, late = chance.choice(("-1", "2", "1/3", "1")), chance.choice((0, 1, 1, 2))
            form = chance.choice(("late({1}, {3})", "sum({1}, times({2}, late({0}, {3})))",
                                  "sum(late({1}, {3}), times({2}, {0}))", "sum({1}, spread(every(late({0}, 1), 2), 2))",
                                  "sum({1}, late(spread(every({0}, 2), 2), 1))", "late(sum({1}, times(-1, late({0}, 1))), 1)"))
            lines.append(f"{name} = {form.format(other, now[at], share, late)}")
            now[at] = name
        text = "\n".join([f"input {name}" for name in inputs] + lines + [f"output {name}" for name in now])
        net = net_in(text)
        if net and net.verdict() == ():
            texts.append(text)
    return texts


SHOWN = shown_inputs(160, 142)
MIXED = mixed_inputs(160, 145)


def is_told(one, delay):
    """Whether the inputs of each time are told with this delay, by the answers to single 1s."""
    for time in range(one.period):
        columns = [(source, time + later) for later in range(delay + 1) for source in range(one.many)]
        rows = [(output, index) for output, rate in enumerate(one.rates) for index in range(int(rate * (time + delay)) + 1)
                if index / rate >= time]
        lines = list(zip(*deciding.table(one, 0, rows, columns, time + delay + 1))) if rows else [()] * len(columns)
        if len(deciding.independent(lines)) - len(deciding.independent(lines[one.many:])) < one.many:
            return False
    return True


class TellingCase(PromiseTest):
    def check(self, text):
        """Check all answers about a net; returns the delay."""
        one, net = deciding.answers_of(text), Net.read(text)
        delay, machine, lost = told_back(net), teller(net), lost_input(net)
        with self.subTest(text):
            self.assertIs(delay is None, machine is None)
            self.assertIs(delay is None, lost is not None)
            if delay is None:
                self.check_lost(net, lost)
                self.assertFalse(is_told(one, min(2 * one.period, one.period * (one.kept + 1))))
            else:
                self.assertIs(delay.__class__, int)
                self.assertLessEqual(delay, one.period * (one.kept + 1))
                self.assertTrue(is_told(one, delay))
                self.assertFalse(delay > 0 and is_told(one, delay - 1))
                self.check_teller(net, machine, delay)
        return delay

    def check_lost(self, net, lost):
        self.assertIs(lost.__class__, tuple)
        self.assertEqual(len(lost), len(net.inputs))
        self.assertEqual(len({len(row) for row in lost}), 1)
        for row in lost:
            self.assertIs(row.__class__, tuple)
            self.assertTrue(all(number.__class__ is Number for number in row))
        self.assertTrue(any(number.sign for row in lost for number in row))
        behind = (0,) * (net.period * (net.kept + 2))
        self.assertFalse(any(number.sign for row in run(net, *[row + behind for row in lost]) for number in row))

    def check_teller(self, net, machine, delay):
        self.assertIs(machine.__class__, Machine)
        self.assertEqual(machine.input_rates, tuple(net.rate(name) for name in net.outputs))
        self.assertEqual(machine.output_rates, ((1, 1),) * len(net.inputs))
        chance = random.Random(str(net))
        until = delay + 2 * net.period + 4
        rows = [tuple(chance.choice((0, 1, -3, 4, Number(1, 7))) for _ in range(until)) for _ in net.inputs]
        late = tuple(((Fraction(0),) * delay + tuple(Fraction(str(n)) for n in row))[:until] for row in rows)
        self.assertEqual(fractions(machine.run(until, *run(net, *rows))), late)


class TellingTest(TellingCase):
    def test_the_example_of_the_document(self):
        low, high = run(halves(), (1, 2, 5, 4, 4))
        self.assertEqual([told_back(halves()), str(teller(halves()).run(5, low, high)[0]), told_back(thinned(2)),
                          told_back(filled(3)), len(lost_input(held(2)))],
                         [1, "(Number(0), Number(1), Number(2), Number(5), Number(4))", None, 0, 1])

    def test_nets_thrown_together(self):
        delays = [self.check(text) for text in TEXTS]
        self.assertGreater(delays.count(None), 40)

    def test_inputs_that_are_shown_in_some_way(self):
        delays = [self.check(text) for text in SHOWN]
        self.assertGreater(delays.count(None), 40)
        self.assertGreater(len(delays) - delays.count(None), 20)

    def test_inputs_that_are_mixed(self):
        delays = [self.check(text) for text in MIXED]
        self.assertGreater(delays.count(None), 4)
        for delay in range(4):
            self.assertGreater(delays.count(delay), 4, delay)

    def test_all_inputs_shown(self):
        for many in (1, 2, 3):
            names = ["x", "z", "w"][:many]
            for order in itertools.permutations(names):
                lines = [f"input {name}" for name in names]
                self.assertEqual(self.check("\n".join(lines + [f"output {name}" for name in order])), 0)
                if many > 1:
                    self.assertIs(self.check("\n".join(lines + [f"output {name}" for name in order[1:]])), None)

    def test_chains(self):
        for definition, delay in (("late(x, 6)", 6), ("late(late(x, 6), 2)", 8), ("times(0, x)", None), ("times(2, x)", 0),
                                  ("every(x, 1)", 0), ("every(x, 2)", None), ("every(x, 6)", None), ("spread(x, 6)", 0),
                                  ("spread(every(x, 2), 2)", None), ("late(spread(x, 3), 1)", 1),
                                  ("late(spread(x, 3), 3)", 1), ("late(spread(x, 3), 4)", 2), ("every(spread(x, 3), 2)", None),
                                  ("every(spread(x, 2), 1)", 0), ("every(late(spread(x, 4), 2), 2)", 1),
                                  ("every(late(spread(x, 4), 1), 2)", None), ("every(spread(x, 4), 2)", 0),
                                  ("sum(x, late(x, 1))", 0), ("sum(x, times(-1, late(x, 1)))", 0),
                                  ("sum(x, times(-1, x))", None), ("sum(x, late(y, 1))", 0),
                                  ("late(sum(x, y), 3)", 3), ("sum(late(x, 2), late(x, 3))", 2)):
            text = f"input x\ny = {definition}\noutput y"
            self.assertEqual(self.check(text), delay, definition)

    def test_each_phase_with_a_delay_of_its_own(self):
        text = "input x\na = spread(every(x, 2), 2)\nb = sum(x, times(-1, a))\nc = sum(late(a, 4), b)\noutput c"
        self.assertEqual(self.check(text), 4)
        self.assertEqual(self.check(text.replace("late(a, 4), b", "a, late(b, 2)")), 2)
        self.assertIs(self.check(text.replace("late(a, 4), b", "a, late(b, 1)")), None)
        slow = "input x\na = every(x, 3)\nb = sum(x, times(-1, spread(a, 3)))\nc = late(a, 2)\noutput b\noutput c"
        self.assertEqual(self.check(slow), 6)
        slow = "input x\na = every(x, 6)\nb = late(late(a, 6), 2)\nc = sum(x, times(-1, spread(a, 6)), spread(b, 6))\noutput c"
        self.assertEqual(self.check(slow), 48)
        three = "input x\na = every(x, 3)\nb = every(late(x, 1), 3)\nc = every(late(x, 2), 3)\n"
        self.assertEqual(self.check(three + "output c\noutput a\noutput b"), 2)
        self.assertIs(self.check(three + "output c\noutput a"), None)
        self.assertIs(self.check(three + "output a\noutput b"), None)

    def test_sums_of_several_inputs(self):
        chance = random.Random(143)
        found = []
        for _ in range(40):
            rows = [[chance.choice((-1, 0, 1, 1, 2)) for _ in range(3)] for _ in range(3)]
            lines = [f"{name} = sum({', '.join(f'times({share}, {at})' for share, at in zip(row, 'xyz'))})"
                     for name, row in zip("abc", rows)]
            text = "\n".join(["input x", "input y", "input z", *lines, "output c", "output a", "output b"])
            wanted = 0 if len(deciding.independent([[Fraction(n) for n in row] for row in rows])) == 3 else None
            self.assertEqual(self.check(text), wanted)
            found.append(wanted)
        self.assertGreater(found.count(None), 3)
        self.assertGreater(found.count(0), 10)

    def test_sums_of_late_inputs(self):
        # The table of multiples is [1 1; 1 1] for samples of one time, but not over several times.
        text = "input x\ninput z\na = sum(x, late(z, 1))\nb = sum(x, late(z, {0}))\noutput a\noutput b"
        self.assertEqual([self.check(text.format(count)) for count in (0, 1, 2, 3, 4)], [0, None, 1, 1, 1])
        text = "input x\ninput z\na = sum(x, z)\nb = sum(x, times(2, z), late(x, {0}))\noutput a\noutput b"
        self.assertEqual([self.check(text.format(count)) for count in (0, 1, 2)], [None, 0, 0])
        text = "input x\ninput z\na = sum(x, z)\nb = sum(x, z, late(x, {0}))\noutput a\noutput b"
        self.assertEqual([self.check(text.format(count)) for count in (0, 1, 2, 6)], [0, 1, 2, 6])

    def test_each_output_and_each_input_late(self):
        for one, other in itertools.product(range(4), repeat=2):
            text = f"input x\ninput z\na = late(sum(x, z), {one})\nb = late(sum(x, times(-1, z)), {other})\noutput a\noutput b"
            self.assertEqual(self.check(text), max(one, other))
            text = f"input x\ninput z\na = late(x, {one})\nb = late(z, {other})\nc = sum(a, b)\noutput c\noutput b"
            self.assertEqual(self.check(text), max(one, other))
            text = f"input x\ninput z\na = late(x, {one})\nb = late(z, {other})\nc = sum(a, b)\noutput c\noutput x"
            self.assertEqual(self.check(text), other)

    def test_each_output_later_by_some_samples(self):
        for text in SHOWN[::6] + MIXED[::4]:
            delay = self.check(text)
            net = Net.read(text)
            if net.kept + 2 * len(net.outputs) <= 8 and len(net.names) < 10:
                body, _, outputs = text.partition("\noutput ")
                names = outputs.split("\noutput ")
                lines = body.split("\n") + [f"zz{name} = late({name}, 2)" for name in sorted(names)]
                later = "\n".join(lines + [f"output zz{name}" for name in names])
                if all(net.rate(name) == (1, 1) for name in names):
                    self.assertEqual(self.check(later), delay if delay is None else delay + 2)
                else:
                    self.assertIs(self.check(later) is None, delay is None)

    def test_rings(self):
        for share in ("1", "2", "-1/2"):
            self.assertEqual(self.check(f"input x\ny = sum(x, times({share}, late(y, 2)))\noutput y"), 0)
            self.assertEqual(self.check(f"input x\ny = sum(late(x, 2), times({share}, late(y, 1)))\noutput y"), 2)
            self.assertIs(self.check(f"input x\ny = sum(x, times({share}, late(y, 1)))\nz = every(y, 2)\noutput z"), None)
            self.assertEqual(self.check(f"input x\ny = sum(x, times({share}, late(y, 1)))\nz = every(y, 2)\noutput z\n"
                                        "output x"), 0)
            self.assertEqual(self.check(f"input x\na = sum(every(x, 2), times({share}, late(a, 1)))\nb = every(late(x, 1), 2)"
                                        "\noutput b\noutput a"), 1)

    def test_an_integral_and_what_undoes_it(self):
        text = "input x\na = sum(x, late(a, 1))\nb = sum(a, times(-1, late(a, 1)))\noutput b"
        self.assertEqual(self.check(text), 0)
        self.assertEqual(teller(Net.read(text)).sizes, (0,))

    def test_periods(self):
        for step in range(1, 7):
            rest = f"input x\na = every(x, {step})\nb = sum(x, times(-1, spread(a, {step})))\n"
            self.assertEqual(self.check(rest + "output a\noutput b"), 0)
            self.assertIs(self.check(rest + "output b"), None)
            self.assertEqual(self.check(rest + "c = late(a, 1)\noutput b\noutput c"), step)

    def test_the_same_written_otherwise(self):
        chance = random.Random(144)
        for text in SHOWN[::4] + MIXED[::2]:
            self.assertEqual(told_back(Net.read(text)), told_back(Net.read(same(text, chance))))

    def test_catalog(self):
        for net, delay in ((halves(), 1), (joined(), 1), (running_sum(), 0), (held(1), 0), (held(2), None), (held(4), None),
                           (thinned(1), 0), (thinned(3), None), (filled(4), 0)):
            self.assertEqual(self.check(str(net)), delay)
            self.assertEqual(told_back(net=net), delay)

    def test_by_name_and_equal_calls(self):
        self.equal(teller(net=halves()), teller(halves()))
        self.assertEqual(lost_input(net=thinned(2)), lost_input(thinned(2)))
        self.assertEqual(told_back(net=halves()), 1)

    def test_no_net(self):
        for value in no_nets():
            for function in (told_back, teller, lost_input):
                self.fails(NotANet, lambda: function(value), value=value)

    def test_inputs_that_are_not_shown(self):
        self.check("input x\ninput z\ninput w\ny = late(x, 3)\noutput y\noutput z")
        self.assertIs(told_back(one_net("times(0, late(x, 1))")), None)


if __name__ == "__main__":
    unittest.main()
