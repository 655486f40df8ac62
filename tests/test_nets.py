import unittest

from delaynets.errors import InvalidText, LimitError, NetError, UnknownName
from delaynets.nets import Draft, Net
from delaynets.signals import read_signal
from tests.examples import INPUTS, NAMES, WRITTEN, thrown
from tests.helpers import PromiseTest, number_values, plain_values, signal_values
from tests.reckoning import net_in
from tests.test_drafts import NO_NAMES

EXAMPLE = "input x\nacc = sum(slow, times(1/2, late(acc, 1)))\nslow = every(sum(x, late(x, 1)), 2)\noutput acc"
HALVES = """input x
high = every(sum(x, times(-1, late(x, 1))), 2)
low = every(sum(x, late(x, 1)), 2)
output low
output high"""
TEXTS = WRITTEN + thrown(120, 1)


def other_values():
    """Values that are neither strings nor nets."""
    return [value for value in plain_values() if not isinstance(value, str)] + number_values() + signal_values() \
        + [0, 1, 5, Draft("x")]


def nearly(text):
    """Texts that are the given one, but for a line or a sign."""
    lines = text.split("\n")
    texts = [text + "\n", "\n" + text, text + " ", " " + text, text + "\n\n", text.replace("\n", "\n\n"), text * 2,
             f"{text}\n{text}", text.replace("\n", " "), text.replace("\n", ";"), text.replace("\n", ""), text.upper(),
             text.replace("input", "inputs"), text.replace("input", "output"), text.replace("output", "input"),
             "\n".join(reversed(lines)), "\n".join(sorted(lines)), text.replace(" = ", "="), text.replace(", ", ","),
             text.replace(" = ", " =  "), text.replace(" = ", "  = "), text.replace("(", "( ")]
    for at, line in enumerate(lines):
        rest = lines[:at] + lines[at + 1:]
        texts.append("\n".join(rest))
        texts.append("\n".join(lines[:at] + [line] + lines[at:]))
        for to in range(len(lines)):
            texts.append("\n".join(rest[:to] + [line] + rest[to:]))
            texts.append("\n".join(rest[:to] + [line] + rest[to:] + [line]))
        for more in ("input q", "output q", "q = x", "q = q", "x = sum(q)", "a", "", "input 1", "output x y", "q = 1",
                     "= x", "q =", "output input", "input = x", "output = sum(x)", "zz9 = x", "q = x = x"):
            texts.append("\n".join(lines[:at] + [more] + lines[at:]))
        texts.append("\n".join(lines[:at] + [f" {line}"] + lines[at + 1:]))
        texts.append("\n".join(lines[:at] + [f"{line} "] + lines[at + 1:]))
        texts.append("\n".join(lines[:at] + [line.partition(" ")[2]] + lines[at + 1:]))
        texts.append("\n".join(lines[:at] + [line.partition(" ")[0]] + lines[at + 1:]))
        texts.append("\n".join(lines[:at] + [line.replace(" ", "  ", 1)] + lines[at + 1:]))
        texts.append("\n".join(lines[:at] + [line.replace(" ", "", 1)] + lines[at + 1:]))
        if at:
            texts.append("\n".join(lines[:at - 1] + [lines[at - 1] + line] + lines[at + 1:]))
    return texts


class ReadTest(PromiseTest):
    def check(self, text):
        """Check what is read against what the other reading says."""
        net = net_in(text)
        if net is None:
            self.fails(InvalidText, lambda: Net.read(text), value=text)
            return "wrong"
        verdict = net.verdict()
        if not verdict:
            read = Net.read(text)
            self.assertIsInstance(read, Net)
            self.assertEqual(str(read), text)
            return "right"
        with self.assertRaises((NetError, LimitError)) as caught:
            Net.read(text)
        error = caught.exception
        if verdict == ("RingWithoutDelay",):
            self.assertTrue(net.is_ring(error.ring))
        else:
            self.assertEqual((error.__class__.__name__, *vars(error).values()), verdict)
        return "no net"

    def test_the_text_of_each_net(self):
        for text in TEXTS:
            self.assertEqual(self.check(text), "right")
            self.assertEqual(str(Net.read(text)), text)
            self.assertEqual(str(Net.read(text=text)), text)

    def test_texts_that_are_nearly_right(self):
        seen = {"right": 0, "wrong": 0, "no net": 0}
        for text in (EXAMPLE, HALVES, *WRITTEN, *TEXTS[-15:]):
            for other in nearly(text):
                seen[self.check(other)] += 1
        self.assertTrue(all(count > 50 for count in seen.values()), seen)

    def test_each_sign_left_out_or_doubled(self):
        for text in (EXAMPLE, "input a\ninput b\nc = sum(a, b)\noutput c\noutput a"):
            for at in range(len(text)):
                self.check(text[:at] + text[at + 1:])
                for sign in " \nxa=1()":
                    self.check(text[:at] + sign + text[at:])
                    self.check(text[:at] + sign + text[at + 1:])

    def test_wrong_forms(self):
        wrong = [
            "", "\n", "x", "input x", "output x", "y = x", "y = x\noutput y", "input x\ny = x", "input x\n\noutput x",
            "input x\noutput x\n", "\ninput x\noutput x", "input x\noutput x ", "input  x\noutput x",
            "input x\noutput x\noutput x", "input x\ninput x\noutput x", "input x\noutput x\ninput z",
            "input x\ny = x\ninput z\noutput y", "input x\ny = x\noutput y\ny = x", "input x\noutput y\ny = x",
            "y = x\ninput x\noutput y", "output x\ninput x", "input x\nz = x\ny = x\noutput y",
            "input x\ny = x\ny = x\noutput y", "input x\ny = x\ny = times(2, x)\noutput y", "input x\nx = x\noutput x",
            "input x\nx = times(2, y)\ny = x\noutput x", "input x\ninput y\ny = x\noutput x",
            "input a\ninput b\ninput c\ninput d\noutput a",
            "input x\na = x\nb = x\nc = x\noutput a\noutput b\noutput c\noutput x",
            "input x output x", "input x;output x", "input x\ny = sum(x,x)\noutput y", "input x\ny=x\noutput y",
            "input x\ny = (x)\noutput y", "input x\ny = 2\noutput y", "input x\ny = x + x\noutput y",
            "input x\ny = \noutput y", "input x\n = x\noutput x", "input x\ny = sum()\noutput y",
            "input x\ny = late(x, 7)\noutput y", "input x\ny = times(100, x)\noutput y",
            "input x\ny = every(x, 0)\noutput y", "input x\ny = late(late(late(late(late(x, 1), 1), 1), 1), 1)\noutput y",
            "input x\ny = times(2/4, x)\noutput y", "input X\noutput X", "input 1\noutput 1", "input\noutput",
            "input x, z\noutput x", "input abcdefghi\noutput abcdefghi", "Input x\nOutput x", "input x\noutput x\nend",
            "input x\nY = x\noutput x", "input x\nlet y = x\noutput y", "input x\ny = x  \noutput y", EXAMPLE + "\n",
            EXAMPLE.replace("\n", "\n\n"), EXAMPLE.replace("\n", " "), str(read_signal("sum(x, x)")), "Net(x)",
        ]
        for text in wrong:
            self.assertIs(net_in(text), None, text)
            self.fails(InvalidText, lambda: Net.read(text), value=text)

    def test_names_that_are_words(self):
        for text in ("input input\noutput = sum(input)\noutput output", "input output\ninput input\noutput input",
                     "input x\ninput = x\noutput = input\noutput input", "input sum\nlate = late(sum, 1)\noutput late"):
            self.assertEqual(self.check(text), "right")

    def test_the_form_comes_before_all_else(self):
        self.fails(InvalidText, lambda: Net.read("input x\ny = q\noutput y\n"))
        self.fails(InvalidText, lambda: Net.read("input x\nz = z\ny = q\noutput y"))
        self.fails(InvalidText, lambda: Net.read("input x\ny = y\noutput y\noutput y"))
        self.fails(UnknownName, lambda: Net.read("input x\ny = q\noutput y"), name="q")

    def test_no_strings(self):
        for value in other_values() + [Net.read(EXAMPLE)]:
            self.fails(InvalidText, lambda: Net.read(value), value=value)


class PropertiesTest(PromiseTest):
    def test_the_example_of_the_document(self):
        net = Net.read(EXAMPLE)
        shown = [net.inputs, net.outputs, net.names, net.rate("acc"), net.period, net.kept,
                 str(net.definition("slow")), str(net) == EXAMPLE, repr(net)]
        self.assertEqual(shown, [("x",), ("acc",), ("acc", "slow", "x"), (1, 2), 2, 2,
                                 "every(sum(x, late(x, 1)), 2)", True, "Net(1 inputs, 2 definitions, 1 outputs)"])

    def test_against_the_other_reckoning(self):
        for text in TEXTS:
            net, other = Net.read(text), net_in(text)
            self.assertEqual(net.inputs, other.inputs)
            self.assertEqual(net.outputs, other.outputs)
            self.assertEqual(net.names, tuple(sorted([*other.inputs, *other.trees])))
            self.same(net.period, other.period())
            self.same(net.kept, other.kept())
            for row in (net.inputs, net.outputs, net.names):
                self.assertIs(row.__class__, tuple)
            self.check_names(net, other)
            counts = (len(other.inputs), len(other.trees), len(other.outputs))
            self.assertEqual(repr(net), "Net({} inputs, {} definitions, {} outputs)".format(*counts))

    def check_names(self, net, other):
        rates = other.rates()
        for name in net.names:
            for rate in (net.rate(name), net.rate(name=name)):
                self.assertEqual(rate, (rates[name].numerator, rates[name].denominator))
                self.assertEqual([rate.__class__, rate[0].__class__, rate[1].__class__], [tuple, int, int])
            if name not in net.inputs:
                line = next(line for line in str(net).split("\n") if line.startswith(f"{name} = "))
                self.equal(net.definition(name), read_signal(line[len(name) + 3:]))
                self.equal(net.definition(name=name), net.definition(name))

    def test_rates_in_lowest_terms(self):
        net = Net.read("input x\na = spread(every(x, 4), 2)\nb = every(spread(a, 6), 2)\noutput a")
        self.assertEqual([net.rate(name) for name in net.names], [(1, 2), (3, 2), (1, 1)])

    def test_unknown_names(self):
        for net in (Net.read(EXAMPLE), Net.read("input x\noutput x")):
            for value in [*plain_values(), *NO_NAMES, *number_values(), *signal_values(), 0, 1, "y", "acc2", "ac", "Net"]:
                if not (isinstance(value, str) and value == "x"):
                    self.fails(UnknownName, lambda: net.rate(value), name=value)
                self.fails(UnknownName, lambda: net.definition(value), name=value)
        net = Net.read("input a\ninput b\nc = sum(a, b)\noutput c")
        for name in ("a", "b"):
            self.assertEqual(net.rate(name), (1, 1))
            self.fails(UnknownName, lambda: net.definition(name), name=name)

    def test_nothing_can_be_assigned(self):
        net = Net.read(EXAMPLE)
        for name in ("inputs", "outputs", "names", "period", "kept"):
            with self.assertRaises(AttributeError):
                setattr(net, name, 5)
        self.assertEqual(str(net), EXAMPLE)

    def test_names_ascend_in_the_order_of_python(self):
        self.assertEqual(Net.read("input b\ninput a2\na10 = b\naa = b\nc = b\noutput c").names,
                         ("a10", "a2", "aa", "b", "c"))


class EqualityTest(PromiseTest):
    def test_equal_if_the_texts_are(self):
        for one in TEXTS[:40]:
            for other in TEXTS[:40]:
                check = self.equal if one == other else self.unequal
                check(Net.read(one), Net.read(other))

    def test_made_and_read_ones(self):
        for text in TEXTS:
            other = net_in(text)
            draft = Draft(*other.inputs)
            for name in reversed(list(other.trees)):
                draft[name] = Net.read(text).definition(name)
            draft.show(*other.outputs)
            self.equal(draft.made(), Net.read(text))
            self.assertEqual(str(draft.made()), text)

    def test_other_values(self):
        net = Net.read(EXAMPLE)
        for value in other_values() + [EXAMPLE, repr(net), ""]:
            self.unequal(net, value)

    def test_the_order_of_inputs_and_outputs_counts(self):
        one = Net.read("input a\ninput b\noutput a\noutput b")
        self.unequal(one, Net.read("input b\ninput a\noutput a\noutput b"))
        self.unequal(one, Net.read("input a\ninput b\noutput b\noutput a"))
        self.unequal(Net.read("input a\nb = a\noutput b"), Net.read("input a\nc = a\noutput c"))

    def test_the_names_of_the_examples(self):
        self.assertTrue({name for text in TEXTS for name in Net.read(text).names} >= {*INPUTS, *NAMES})


if __name__ == "__main__":
    unittest.main()
