"""Nets written in another way that shows the same, and nets that are nearly the same."""

import random
from fractions import Fraction

from tests.oracle import expression_in
from tests.reckoning import Net, net_in, parts_of, written

FRESH = ("k1", "k2", "k3", "k4", "k5", "k6", "k7", "k8", "k9", "j1", "j2", "j3", "j4", "j5", "j6")


def changed(text, chance, steps, change):
    """The text of the net behind some changes at places drawn by chance; changes that give no net are left out."""
    net = net_in(text)
    for _ in range(steps):
        if not net.trees:
            break
        name = chance.choice(sorted(net.trees))
        place = chance.randrange(len(parts_of(net.trees[name])))
        trees = dict(net.trees)
        trees[name] = at_place(trees[name], place, lambda part: change(part, chance, trees))
        other = net_of(net.inputs, trees, net.outputs)
        net = other or net
    return net.text()


def net_of(inputs, trees, outputs):
    """The net with these trees, or None."""
    texts = {name: written(whole) for name, whole in trees.items()}
    if not all(expression_in(text) for text in texts.values()):
        return None
    net = Net(inputs, texts, outputs)
    return net if net.verdict() == () else None


def at_place(expression, place, change):
    """The tree with the part at this place, in the order of the words, changed."""
    if place == 0:
        return change(expression)
    word, inside, number = expression
    place -= 1
    rest = []
    for inner in inside:
        many = len(parts_of(inner))
        rest.append(at_place(inner, place, change) if 0 <= place < many else inner)
        place -= many
    return (word, tuple(rest), number)


def otherwise(part, chance, trees):
    """The same signal, written in another way."""
    word, inside, number = part
    choices = [("sum", (part,), None), ("times", (part,), Fraction(1)), ("late", (part,), 0), ("every", (part,), 1),
               ("every", (("spread", (part,), 2),), 2), ("every", (("spread", (part,), 3),), 3)]
    if word == "sum" and len(inside) > 1:
        row = list(inside)
        chance.shuffle(row)
        choices += [("sum", tuple(row), None)] * 4
        choices += [("sum", (inside[0], ("sum", inside[1:], None)), None)]
    if word == "late" and number > 1:
        choices += [("late", (("late", inside, number - 1),), 1), ("late", (("late", inside, 1),), number - 1)] * 2
    if word == "late" and inside[0][0] == "times":
        choices += [("times", (("late", inside[0][1], number),), inside[0][2])] * 3
    if word == "times" and inside[0][0] == "late":
        choices += [("late", (("times", inside[0][1], number),), inside[0][2])] * 3
    if word == "times" and inside[0][0] == "sum":
        choices += [("sum", tuple(("times", (term,), number) for term in inside[0][1]), None)] * 3
    if word == "every" and inside[0][0] == "late" and inside[0][2] % number == 0:
        choices += [("late", (("every", inside[0][1], number),), inside[0][2] // number)] * 3
    if word == "late" and inside[0][0] == "every":
        choices += [("every", (("late", inside[0][1], number * inside[0][2]),), inside[0][2])] * 3
    if word == "spread" and inside[0][0] == "late":
        choices += [("late", (("spread", inside[0][1], number),), number * inside[0][2])] * 3
    if word == "name" and number in trees:
        choices += [trees[number]] * 4
    return chance.choice(choices)


def moved_out(text, chance):
    """The text of the net with one part as a definition of its own."""
    net = net_in(text)
    trees = dict(net.trees)
    fresh = next(name for name in FRESH if name not in trees and name not in net.inputs)
    if trees:
        name = chance.choice(sorted(trees))
        place = chance.randrange(len(parts_of(trees[name])))
        trees[fresh] = parts_of(trees[name])[place]
        trees[name] = at_place(trees[name], place, lambda part: ("name", (), fresh))
    other = net_of(net.inputs, trees, net.outputs)
    return (other or net).text()


def renamed(text, chance):
    """The text of the net with other names."""
    net = net_in(text)
    names = [*net.inputs, *net.trees]
    new = dict(zip(names, chance.sample(["q", "r", "late", "x", "y", "u7", "input", "zzzzzzzz", "b", "a", "m", "o", "t1",
                                         "t2", "t3", "t4"], len(names))))

    def put(expression):
        word, inside, number = expression
        return (word, tuple(map(put, inside)), new[number] if word == "name" else number)

    trees = {new[name]: put(whole) for name, whole in net.trees.items()}
    other = net_of([new[name] for name in net.inputs], trees, [new[name] for name in net.outputs])
    return other.text()


def same(text, chance):
    """A net that shows the same, written otherwise in several places."""
    text = changed(text, chance, chance.randint(1, 6), otherwise)
    for _ in range(chance.randint(0, 2)):
        text = moved_out(text, chance)
    text = changed(text, chance, chance.randint(0, 3), otherwise)
    return renamed(text, chance) if chance.random() < 0.4 else text


def another_number(part, chance, trees):
    """The part with another number, or with other words."""
    word, inside, number = part
    if word == "times":
        return (word, inside, number + chance.choice((-1, 1, Fraction(1, 2))))
    if word == "late":
        return (word, inside, max(0, number + chance.choice((-1, 1, 2))))
    if word in ("every", "spread") and inside[0][0] in ("every", "spread") and inside[0][0] != word:
        return (inside[0][0], ((word, inside[0][1], number),), inside[0][2])
    if word == "sum" and len(inside) > 1:
        return (word, inside[:-1], None)
    return chance.choice([("late", (part,), 1), ("times", (part,), Fraction(-1)),
                          ("spread", (("every", (part,), 2),), 2), ("every", (("late", (("spread", (part,), 2),), 1),), 2)])


def near(text, chance):
    """A net that differs in a number or a word, or in a few."""
    return changed(text, chance, chance.choice((1, 1, 2)), another_number)


def pairs(texts, seed):
    """Pairs of texts of comparable nets: the same ones written otherwise, near ones, and both."""
    chance = random.Random(seed)
    found = []
    for text in texts:
        other = chance.choice((same, near, lambda text, chance: near(same(text, chance), chance)))(text, chance)
        if shape(text) == shape(other):
            found.append((text, other) if chance.random() < 0.5 else (other, text))
    return found


def shape(text):
    """What comparable nets have in common."""
    net = net_in(text)
    rates = net.rates()
    return (len(net.inputs), tuple(rates[name] for name in net.outputs))
