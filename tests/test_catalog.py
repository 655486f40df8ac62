import unittest

from delaynets import catalog
from delaynets.errors import InvalidStep
from delaynets.nets import Net
from tests.helpers import PromiseTest, number_values, plain_values, signal_values

PLAIN = {
    "halves": """input x
high = every(sum(x, times(-1, late(x, 1))), 2)
low = every(sum(x, late(x, 1)), 2)
output low
output high""",
    "joined": """input x
back = times(1/2, sum(up, times(-1, down), late(up, 1), late(down, 1)))
down = spread(high, 2)
high = every(sum(x, times(-1, late(x, 1))), 2)
low = every(sum(x, late(x, 1)), 2)
up = spread(low, 2)
output back""",
    "running_sum": "input x\ny = sum(x, late(y, 1))\noutput y",
}
STEPPED = {
    "held": [
        "input x\ns = every(x, 1)\nt = spread(s, 1)\ny = sum(t)\noutput y",
        "input x\ns = every(x, 2)\nt = spread(s, 2)\ny = sum(t, late(t, 1))\noutput y",
        "input x\ns = every(x, 3)\nt = spread(s, 3)\ny = sum(t, late(t, 1), late(t, 2))\noutput y",
        "input x\ns = every(x, 4)\nt = spread(s, 4)\ny = sum(t, late(t, 1), late(t, 2), late(t, 3))\noutput y",
    ],
    "thinned": [f"input x\ny = every(x, {k})\noutput y" for k in range(1, 5)],
    "filled": [f"input x\ny = spread(x, {k})\noutput y" for k in range(1, 5)],
}


class CatalogTest(PromiseTest):
    def check(self, call, text):
        net = call()
        self.assertIs(net.__class__, Net)
        self.assertEqual(str(net), text)
        self.assertEqual(net.inputs, ("x",))
        self.equal(net, Net.read(text))
        self.equal(net, call())
        self.assertIsNot(net, call())

    def test_nets_without_a_step(self):
        for name, text in PLAIN.items():
            self.check(getattr(catalog, name), text)

    def test_nets_with_a_step(self):
        for name, texts in STEPPED.items():
            make = getattr(catalog, name)
            for k, text in enumerate(texts, 1):
                self.check(lambda: make(k), text)
                self.check(lambda: make(k=k), text)

    def test_periods_and_kept_samples(self):
        nets = [catalog.halves(), catalog.joined(), catalog.running_sum()]
        self.assertEqual([(net.period, net.kept) for net in nets], [(2, 2), (2, 4), (1, 1)])
        for k in range(1, 5):
            self.assertEqual((catalog.held(k).period, catalog.held(k).kept), (k, k * (k - 1) // 2))
            self.assertEqual((catalog.thinned(k).period, catalog.thinned(k).rate("y")), (k, (1, k)))
            self.assertEqual((catalog.filled(k).period, catalog.filled(k).rate("y")), (1, (k, 1)))

    def test_wrong_steps(self):
        for name in STEPPED:
            make = getattr(catalog, name)
            for value in [*plain_values(), *number_values(), *signal_values(), catalog.halves(), 0, 5, -1, 6, 10 ** 39]:
                self.fails(InvalidStep, lambda: make(value), value=value)
                self.fails(InvalidStep, lambda: make(k=value), value=value)


if __name__ == "__main__":
    unittest.main()
