"""Nets for several test files: some written out, some thrown together, the same ones each time."""

import random
from fractions import Fraction

from tests.oracle import expression_in
from tests.reckoning import Net

INPUTS = ("x", "y", "z")
NAMES = ("a", "b", "c", "d2", "sum", "w", "x1", "zz")
RATES = [Fraction(*pair) for pair in ((1, 1), (1, 1), (1, 1), (1, 2), (2, 1), (1, 3), (3, 1), (3, 2), (2, 3), (4, 1))]
GAINS = ("-1", "2", "1/2", "-3/4", "0", "1", "99/98", "5")

WRITTEN = [
    "input x\noutput x",
    "input x\ninput b\noutput b\noutput x",
    "input c\ninput a\ninput b\noutput b\noutput c\noutput a",
    "input x\ny = x\noutput y",
    "input x\ny = sum(x)\noutput y\noutput x",
    "input x\ny = times(-3/4, x)\noutput y",
    "input x\ny = late(x, 0)\noutput y",
    "input x\ny = late(x, 6)\noutput y",
    "input x\ny = every(x, 1)\noutput y",
    "input x\ny = every(x, 6)\noutput y",
    "input x\ny = spread(x, 1)\noutput y",
    "input x\ny = spread(x, 6)\noutput y",
    "input x\ny = sum(x, times(1/2, late(y, 1)))\noutput y",
    "input x\nacc = sum(slow, times(1/2, late(acc, 1)))\nslow = every(sum(x, late(x, 1)), 2)\noutput acc",
    "input x\na = sum(x, late(b, 1))\nb = sum(a, times(-1, late(a, 1)))\noutput b\noutput a",
    "input x\ny = late(late(x, 2), 1)\noutput y",
    "input x\ny = sum(late(x, 1), late(times(2, late(x, 2)), 3))\noutput y",
    "input x\ninput z\ny = sum(late(z, 1), every(late(spread(x, 2), 3), 2))\noutput y",
    "input x\ny = spread(every(x, 3), 2)\noutput y",
    "input x\ny = every(spread(x, 3), 2)\noutput y",
    "input x\nf = spread(x, 3)\ny = sum(f, late(y, 2))\noutput y\noutput f\noutput x",
    "input x\ny = every(late(spread(y, 2), 2), 2)\ny2 = sum(z, late(y2, 1))\nz = sum(x, y)\noutput z\noutput y2",
    "input x\nd = late(sum(d, s), 1)\ns = every(x, 2)\ny = sum(spread(d, 2), x)\noutput y\noutput d",
    "input x\nfast = spread(spread(x, 6), 2)\nslow = every(fast, 6)\nu = late(slow, 1)\noutput slow\noutput u",
    "input x\na = every(x, 2)\nb = every(x, 3)\noutput a\noutput b",
    "input x\ns = spread(every(x, 2), 2)\ny = sum(s, late(s, 1))\noutput y",
    "input x\nunused = late(late(x, 3), 5)\noutput x",
]


def thrown(count, seed):
    """So many texts of nets, thrown together."""
    chance = random.Random(seed)
    texts = []
    while len(texts) < count:
        inputs = INPUTS[:chance.choice((1, 1, 2, 3))]
        definitions = _definitions(chance, inputs)
        names = list(definitions) + list(inputs)
        net = Net(inputs, definitions, chance.sample(names, min(len(names), chance.choice((1, 1, 2, 3)))))
        if net.verdict() == () and (net.kept() or chance.random() < 0.2):
            texts.append(net.text())
    return texts


def _definitions(chance, inputs):
    rates = {name: Fraction(1) for name in inputs}
    names = chance.sample(NAMES, chance.randint(1, 5))
    rates.update({name: chance.choice(RATES) for name in names})
    definitions = {}
    for name in names:
        text = None
        while text is None or not expression_in(text):
            text = _expression(chance, rates, rates[name], 5, [*inputs, *definitions])
        definitions[name] = text
    return definitions


def _expression(chance, rates, rate, depth, ready):
    """An expression of this rate, in which the names that are ready may be used without delay."""
    leaves = [name for name in ready if rates[name] == rate]
    if depth == 1 or leaves and chance.random() < 0.4:
        return chance.choice(leaves) if leaves else None
    word = chance.choice(("sum", "sum", "times", "late", "every", "spread"))
    if word == "sum":
        terms = [_expression(chance, rates, rate, depth - 1, ready) for _ in range(chance.randint(1, 3))]
        return None if None in terms else f"sum({', '.join(terms)})"
    if word == "late":
        count = chance.choice((0, 1, 1, 1, 2, 2, 3))
        return _around(_expression(chance, rates, rate, depth - 1, list(rates) if count else ready), word, count)
    if word == "times":
        inner = _expression(chance, rates, rate, depth - 1, ready)
        return inner and f"times({chance.choice(GAINS)}, {inner})"
    step = chance.choice((1, 2, 2, 3, 3, 4, 6))
    inside = rate * step if word == "every" else rate / step
    return _around(_expression(chance, rates, inside, depth - 1, ready), word, step)


def _around(inner, word, number):
    return inner and f"{word}({inner}, {number})"


def loose(count, seed):
    """So many tuples (inputs, definitions, outputs), most of which make no net."""
    chance = random.Random(seed)
    rows = []
    for _ in range(count):
        inputs = chance.sample(("x", "n", "zz"), chance.choice((1, 1, 2)))
        names = chance.sample(("a", "b", "c", "m", "y"), chance.randint(1, 4))
        usable = [*inputs, *inputs, *names] + (["q", "o"] if chance.random() < 0.1 else [])
        definitions = {}
        for name in names:
            text = _loose_expression(chance, usable, chance.randint(1, 4))
            definitions[name] = text if expression_in(text) else "x"
        outputs = chance.sample(sorted(set(usable)), min(3, chance.choice((1, 1, 1, 2, 3)), len(set(usable))))
        rows.append((tuple(inputs), definitions, tuple(outputs) if chance.random() < 0.97 else ()))
    return rows


def _loose_expression(chance, usable, depth):
    if depth == 1:
        return chance.choice(usable)
    word = chance.choice(("sum", "times", "late", "late", "late", "every", "spread"))
    inner = _loose_expression(chance, usable, depth - 1)
    if word == "sum":
        return f"sum({inner}, {_loose_expression(chance, usable, depth - 1)})"
    if word == "times":
        return f"times(2, {inner})"
    if word == "late":
        return f"late({inner}, {chance.choice((0, 1, 1, 2, 3))})"
    return f"{word}({inner}, {chance.choice((1, 2, 2, 3, 4))})"
