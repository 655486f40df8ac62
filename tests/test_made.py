import itertools
import unittest

from delaynets.errors import NoOutput, NoRate, RingWithoutDelay, TooLarge, TooMany, TwoRates, UnknownName
from delaynets.nets import Draft, Net
from delaynets.signals import read_signal
from tests import reckoning
from tests.examples import loose
from tests.helpers import PromiseTest


def draft_of(definitions, outputs=("x",), inputs=("x",)):
    """A draft with these texts of definitions."""
    draft = Draft(*inputs)
    for name, text in definitions.items():
        draft[name] = read_signal(text)
    if outputs:
        draft.show(*outputs)
    return draft


class MadeCase(PromiseTest):
    def refused(self, kind, definitions, outputs=("x",), inputs=("x",), **fields):
        """Check that no net is made, in whatever order the definitions are put in, also not from the text."""
        for names in (list(definitions), list(reversed(definitions)), sorted(definitions)):
            draft = draft_of({name: definitions[name] for name in names}, outputs, inputs)
            self.fails(kind, draft.made, **fields)
            self.fails(kind, draft.made, **fields)
            self.assertEqual((len(draft), draft.inputs, draft.outputs), (len(definitions), inputs, outputs))
        if outputs:
            text = reckoning.Net(inputs, definitions, outputs).text()
            self.fails(kind, lambda: Net.read(text), **fields)

    def ring(self, definitions, outputs=("x",), inputs=("x",)):
        """Check that a ring is told."""
        net = reckoning.Net(inputs, definitions, outputs)
        for call in (draft_of(definitions, outputs, inputs).made, lambda: Net.read(net.text())):
            rings = []
            for _ in range(2):
                with self.assertRaises(RingWithoutDelay) as caught:
                    call()
                self.assertTrue(net.is_ring(caught.exception.ring), (definitions, caught.exception.ring))
                rings.append(caught.exception.ring)
            self.assertEqual(rings[0], rings[1])

    def accepted(self, definitions, outputs=("x",), inputs=("x",)):
        net = draft_of(definitions, outputs, inputs).made()
        self.assertIsInstance(net, Net)
        self.assertEqual(str(net), reckoning.Net(inputs, definitions, outputs).text())
        return net


class NamesTest(MadeCase):
    def test_no_output(self):
        self.refused(NoOutput, {}, ())
        self.refused(NoOutput, {"y": "x"}, ())
        self.refused(NoOutput, {"y": "x"}, (), ("x", "z"))

    def test_unknown_names_in_definitions(self):
        for text in ("q", "sum(x, q)", "times(2, q)", "late(q, 0)", "late(q, 3)", "every(q, 2)", "spread(q, 2)",
                     "sum(x, times(2, late(q, 1)))"):
            self.refused(UnknownName, {"y": text}, name="q")
            self.refused(UnknownName, {"y": text, "z": "x"}, name="q")

    def test_unknown_outputs(self):
        self.refused(UnknownName, {}, ("q",), name="q")
        self.refused(UnknownName, {"y": "x"}, ("y", "q"), name="q")
        self.refused(UnknownName, {"y": "x"}, ("q", "y", "x"), name="q")

    def test_the_least_unknown_name(self):
        self.refused(UnknownName, {"y": "sum(q, p)"}, name="p")
        self.refused(UnknownName, {"y": "p", "z": "q"}, ("o",), name="o")
        self.refused(UnknownName, {"y": "p", "z": "q"}, ("s", "r"), name="p")
        self.refused(UnknownName, {"a": "q", "z": "p"}, name="p")
        self.refused(UnknownName, {"y": "sum(a2, a10, a1, aa)"}, ("x",), name="a1")
        self.refused(UnknownName, {"y": "sum(a2, a10)"}, ("x",), name="a10")

    def test_inputs_and_definitions_are_known(self):
        self.accepted({"y": "sum(x, z)"}, ("y", "z", "x"), ("x", "z"))
        self.accepted({"y": "late(z, 1)", "z": "x"}, ("z",))


class RingsTest(MadeCase):
    def test_a_name_in_its_own_definition(self):
        for text in ("y", "sum(y)", "sum(x, y)", "times(2, y)", "times(0, y)", "every(y, 1)", "spread(y, 1)",
                     "late(y, 0)", "every(y, 2)", "spread(y, 2)", "spread(every(y, 2), 2)", "late(times(2, y), 0)",
                     "sum(late(y, 1), y)", "sum(x, times(1/2, sum(late(y, 0))))"):
            self.fails(RingWithoutDelay, draft_of({"y": text}).made)
            self.ring({"y": text})
            self.ring({"a": "x", "y": text, "z": "y"}, ("z",))

    def test_rings_of_several_names(self):
        for kind in ("sum({})", "sum(x, {})", "times(3, {})", "every({}, 1)", "spread({}, 1)", "late({}, 0)", "{}"):
            self.ring({"a": kind.format("b"), "b": kind.format("a")})
            self.ring({"a": kind.format("b"), "b": "c", "c": kind.format("a"), "d": "a"}, ("d",))
            self.ring({"p": "q", "q": kind.format("r"), "r": "s", "s": "p"})

    def test_delays_break_a_ring(self):
        for count in range(1, 7):
            self.accepted({"y": f"sum(x, late(y, {count}))"}, ("y",))
            self.accepted({"y": f"sum(x, times(2, late(sum(y, y), {count})))"}, ("y",))
            self.accepted({"a": f"sum(x, late(b, {count}))", "b": "c", "c": "times(2, a)"}, ("c",))
        self.accepted({"y": "sum(x, late(late(y, 0), 1))"}, ("y",))
        self.accepted({"y": "sum(x, late(late(y, 1), 0))"}, ("y",))
        self.accepted({"y": "sum(x, every(late(spread(y, 2), 1), 2))"}, ("y",))

    def test_one_place_without_delay_is_enough(self):
        self.ring({"a": "sum(late(b, 1), b)", "b": "sum(x, a)"})
        self.ring({"a": "sum(b, late(b, 1))", "b": "sum(late(a, 2), x, times(0, a))"})
        self.accepted({"a": "sum(late(b, 1), late(b, 2))", "b": "sum(x, a)"}, ("a",))

    def test_what_leads_to_a_ring_is_not_in_it(self):
        definitions = {"a": "b", "b": "sum(a, late(e, 1))", "c": "sum(a, d)", "d": "sum(c, x)", "e": "x", "g": "c"}
        self.ring(definitions, ("g",))
        with self.assertRaises(RingWithoutDelay) as caught:
            draft_of({"a": "b", "b": "c", "c": "d", "d": "c"}).made()
        self.assertEqual(sorted(caught.exception.ring), ["c", "d"])

    def test_long_rings(self):
        names = [f"n{at}" for at in range(12)]
        definitions = {name: f"sum(x, {names[at - 1]})" for at, name in enumerate(names)}
        with self.assertRaises(RingWithoutDelay) as caught:
            draft_of(definitions).made()
        self.assertEqual(len(caught.exception.ring), 12)
        self.ring(definitions)
        definitions["n5"] = "sum(x, late(n4, 1))"
        self.accepted(definitions, ("n11",))


class RatesTest(MadeCase):
    def rates(self, definitions, inputs=("x",), **rates):
        net = self.accepted(definitions, tuple(rates)[:3], inputs)
        for name, rate in rates.items():
            self.assertEqual(net.rate(name), rate)

    def test_steps_there_and_back(self):
        self.rates({"y": "spread(every(x, 3), 2)"}, y=(2, 3))
        self.rates({"y": "every(spread(x, 3), 2)"}, y=(3, 2))
        self.rates({"y": "every(spread(x, 6), 4)"}, y=(3, 2))
        self.rates({"a": "every(x, 2)", "b": "spread(a, 2)", "c": "sum(x, b)"}, a=(1, 2), b=(1, 1), c=(1, 1))
        self.rates({"a": "sum(late(a, 1), every(x, 5))", "b": "spread(spread(a, 5), 3)"}, a=(1, 5), b=(3, 1))

    def test_rates_that_only_a_later_definition_tells(self):
        self.rates({"a": "late(a, 1)", "z": "sum(x, every(a, 3))"}, a=(3, 1), z=(1, 1))
        self.rates({"a": "late(b, 1)", "b": "every(late(c, 1), 2)", "c": "late(spread(a, 2), 1)",
                    "d": "sum(a, spread(x, 2))"}, a=(2, 1), b=(2, 1), c=(4, 1), d=(2, 1))

    def test_the_example_of_the_document(self):
        self.fails(TwoRates, lambda: Net.read("input x\nmean = sum(x, every(x, 2))\noutput mean"), name="mean")

    def test_contradictions_inside_a_definition(self):
        for text in ("sum(x, every(x, 2))", "sum(spread(x, 2), x)", "sum(every(x, 2), every(x, 3))",
                     "sum(x, late(y, 1), every(x, 2))", "sum(every(spread(x, 2), 3), every(x, 2))",
                     "sum(x, late(every(y, 2), 1))", "late(every(y, 2), 1)", "late(spread(y, 3), 1)",
                     "times(2, late(sum(z, every(z, 2)), 0))", "sum(x, every(z, 2))"):
            self.refused(TwoRates, {"y": text}, ("x",), ("x", "z"), name="y")

    def test_contradictions_between_definitions(self):
        self.refused(TwoRates, {"a": "every(x, 2)", "b": "sum(a, x)"}, name="b")
        self.refused(TwoRates, {"a": "sum(b, x)", "b": "every(x, 2)"}, name="b")
        self.refused(TwoRates, {"a": "late(b, 1)", "b": "every(late(a, 1), 2)"}, name="b")
        self.refused(TwoRates, {"a": "sum(b, x)", "b": "sum(c, x)", "c": "spread(x, 2)", "d": "sum(x, x)"}, name="c")
        self.refused(TwoRates, {"c": "sum(x, every(x, 2))", "b": "sum(x, every(x, 3))"}, name="b")
        self.refused(TwoRates, {"a": "late(b, 1)", "b": "late(c, 1)", "c": "late(spread(a, 2), 1)", "d": "x"}, name="c")
        self.refused(TwoRates, {"a": "late(a, 1)", "b": "sum(a, x)", "c": "sum(spread(a, 2), x)"}, name="c")
        self.refused(TwoRates, {"m10": "sum(m2, x)", "m2": "every(x, 2)"}, name="m2")

    def test_two_inputs_have_the_same_rate(self):
        self.refused(TwoRates, {"y": "sum(x, every(z, 2))"}, ("x",), ("x", "z"), name="y")
        self.refused(TwoRates, {"a": "every(z, 2)", "b": "sum(a, x)"}, ("x",), ("x", "z"), name="b")
        self.refused(TwoRates, {"a": "sum(late(a, 1), x)", "b": "sum(every(a, 2), z)"}, ("x",), ("x", "z"), name="b")

    def test_names_that_no_input_fixes(self):
        self.refused(NoRate, {"y": "late(y, 1)"}, name="y")
        self.refused(NoRate, {"y": "times(2, late(y, 1))", "z": "x"}, ("z",), name="y")
        self.refused(NoRate, {"b": "late(c, 1)", "c": "every(spread(b, 2), 2)"}, name="b")
        self.refused(NoRate, {"c": "late(b, 1)", "b": "late(c, 1)", "a": "x"}, name="b")
        self.refused(NoRate, {"m2": "late(m10, 1)", "m10": "late(m2, 1)", "n": "x"}, name="m10")
        self.refused(NoRate, {"a": "sum(b, late(a, 1))", "b": "late(every(spread(b, 2), 2), 1)"}, name="a")
        self.refused(NoRate, {"z": "late(z, 1)", "q": "late(q, 1)"}, name="q")
        self.refused(NoRate, {"p": "late(p, 1)", "q": "spread(p, 2)", "a": "times(2, q)"}, ("x",), name="a")

    def test_without_delay_rings_come_before_rates(self):
        self.ring({"y": "every(y, 2)"})
        self.ring({"y": "sum(y, every(x, 2), x)"})


class LimitsTest(MadeCase):
    def test_definitions(self):
        names = ["a", "b", "c", "d", "e", "f", "g", "h", "i", "j", "k", "l", "m", "n"]
        for many in (0, 1, 11, 12):
            self.accepted({name: "x" for name in names[:many]})
        for many in (13, 14):
            self.refused(TooMany, {name: "x" for name in names[:many]}, limit=12)

    def test_kept_samples(self):
        for text in ("late(late(x, 6), 2)", "sum(late(x, 3), late(x, 5))", "late(sum(late(x, 4), late(x, 4)), 0)",
                     "sum(late(x, 2), late(x, 2), late(x, 2), late(x, 2))", "every(late(spread(late(x, 6), 2), 2), 2)"):
            self.assertEqual(self.accepted({"y": text}, ("y",)).kept, 8)
            self.assertEqual(self.accepted({"y": text}).kept, 8)
            self.refused(TooMany, {"y": text, "z": "late(x, 1)"}, ("y",), limit=8)
            self.refused(TooMany, {"y": text, "z": "late(x, 1)"}, ("x",), limit=8)
        self.refused(TooMany, {"y": "late(late(x, 6), 3)"}, ("y",), limit=8)
        self.refused(TooMany, {"y": "sum(late(x, 3), late(x, 3), late(x, 3))"}, ("y",), limit=8)
        self.refused(TooMany, {"a": "late(x, 6)", "b": "late(x, 6)"}, limit=8)
        self.accepted({"a": "late(x, 6)", "b": "late(a, 2)", "c": "late(x, 0)"}, ("c",))

    def test_period(self):
        for definitions, period in (
                ({"y": "every(x, 6)"}, 6), ({"y": "every(every(x, 2), 3)"}, 6), ({"y": "every(x, 5)"}, 5),
                ({"a": "every(x, 2)", "b": "every(x, 3)"}, 6), ({"a": "every(x, 4)", "b": "every(x, 2)"}, 4),
                ({"y": "spread(every(every(x, 2), 3), 6)"}, 6), ({"y": "every(spread(x, 2), 4)"}, 2),
                ({"y": "every(spread(x, 4), 4)"}, 1), ({"y": "every(spread(x, 6), 4)"}, 2), ({}, 1),
                ({"y": "every(spread(x, 3), 4)"}, 4), ({"y": "sum(x, spread(every(late(x, 1), 4), 4))"}, 4)):
            self.assertEqual(self.accepted(definitions).period, period)
        for definitions in ({"y": "every(every(x, 2), 4)"}, {"y": "spread(every(every(x, 2), 4), 4)"},
                            {"a": "every(x, 4)", "b": "every(x, 3)"}, {"a": "every(x, 5)", "b": "every(x, 2)"},
                            {"y": "spread(every(every(x, 4), 2), 2)"}, {"y": "every(every(x, 3), 3)"},
                            {"y": "every(spread(every(x, 4), 2), 6)"},
                            {"y": "sum(spread(every(x, 4), 4), spread(every(x, 6), 6))"}):
            self.refused(TooLarge, definitions, limit=6)

    def test_rates(self):
        for text in ("spread(spread(x, 6), 2)", "spread(spread(x, 2), 5)", "every(spread(spread(x, 4), 3), 6)",
                     "spread(spread(every(x, 2), 6), 4)", "spread(spread(every(x, 5), 6), 2)",
                     "spread(spread(every(x, 3), 6), 6)", "spread(spread(every(spread(x, 3), 6), 4), 6)"):
            self.accepted({"y": text}, ("y",))
        for text in ("spread(spread(x, 5), 3)", "spread(spread(x, 4), 4)", "every(spread(spread(x, 5), 3), 3)",
                     "spread(spread(every(x, 2), 6), 5)", "spread(spread(every(x, 6), 5), 5)",
                     "every(every(spread(spread(x, 4), 4), 4), 4)"):
            self.refused(TooLarge, {"y": text}, ("x",), limit=12)
        self.refused(TooLarge, {"a": "spread(x, 6)", "b": "spread(a, 3)"}, ("a",), limit=12)


class OrderTest(MadeCase):
    # Each of these lets a draft fail, in the order in which the failures count.
    FAULTS = [
        (NoOutput, {}, {}),
        (UnknownName, {"u": "sum(x, zz)"}, {"name": "zz"}),
        (RingWithoutDelay, {"r": "sum(x, s)", "s": "times(2, r)"}, {}),
        (TwoRates, {"t": "sum(x, every(x, 2))"}, {"name": "t"}),
        (NoRate, {"e": "late(e, 1)"}, {"name": "e"}),
        (TooMany, {f"d{at}": "x" for at in range(13)}, {"limit": 12}),
        (TooMany, {"k": "late(late(x, 6), 3)"}, {"limit": 8}),
        (TooLarge, {"p": "every(every(x, 2), 4)"}, {"limit": 6}),
        (TooLarge, {"v": "spread(spread(x, 4), 4)"}, {"limit": 12}),
    ]

    def check(self, chosen):
        definitions = {}
        for _, more, _ in chosen:
            definitions.update(more)
        kind, _, fields = chosen[0]
        self.refused(kind, definitions, () if kind is NoOutput else ("x",), **fields)

    def test_each_one_alone(self):
        for fault in self.FAULTS:
            self.check([fault])

    def test_two_at_once(self):
        for pair in itertools.combinations(self.FAULTS, 2):
            self.check(pair)

    def test_many_at_once(self):
        for at in range(len(self.FAULTS)):
            self.check(self.FAULTS[at:])
        for three in itertools.combinations(self.FAULTS, 3):
            self.check(three)

    def test_no_fault(self):
        self.accepted({"y": "sum(x, late(y, 1))"}, ("y",))

    def test_many_drafts_against_the_other_reckoning(self):
        seen = set()
        for inputs, definitions, outputs in loose(1500, 11):
            draft = draft_of(definitions, outputs, inputs)
            net = reckoning.Net(inputs, definitions, outputs)
            verdict = net.verdict()
            seen.add(verdict[:1])
            if not verdict:
                self.assertEqual(str(draft.made()), net.text())
                continue
            if verdict[0] == "RingWithoutDelay":
                self.ring(definitions, outputs, inputs)
                continue
            with self.assertRaises(Exception) as caught:
                draft.made()
            error = caught.exception
            self.assertEqual((error.__class__.__name__, *vars(error).values()), verdict, net.text())
        self.assertEqual(len(seen), 8)


if __name__ == "__main__":
    unittest.main()
