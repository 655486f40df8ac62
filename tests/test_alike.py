import itertools
import random
import unittest

from delaynets.alike import alike, alike_on, difference, parted_classes
from delaynets.catalog import filled, halves, held, joined, running_sum, thinned
from delaynets.errors import InvalidInputs, InvalidOutputs, NotANet, NotComparable, TooLarge
from delaynets.nets import Net
from tests import deciding
from tests.examples import WRITTEN, thrown
from tests.helpers import PromiseTest, number_values, plain_values, signal_values
from tests.rewriting import pairs, same, shape
from tests.test_runs import no_nets, one_net

TEXTS = WRITTEN + thrown(140, 81)
PAIRS = pairs(TEXTS, 82)
FUNCTIONS = (alike, difference, parted_classes, lambda one, other: alike_on(one, other, (), ()))


def matching(texts):
    """Pairs of texts of comparable nets that have nothing else in common."""
    groups = {}
    for text in texts:
        groups.setdefault(shape(text), []).append(text)
    return [pair for group in groups.values() for pair in zip(group, group[1:])]


class AlikeCase(PromiseTest):
    def check(self, text, line):
        """Check all answers about two nets against runs; True if they are alike."""
        one, other = deciding.answers_of(text), deciding.answers_of(line)
        net, second = Net.read(text), Net.read(line)
        wanted = deciding.earliest(one, other)
        with self.subTest(one=text, other=line):
            self.assertIs(alike(net, second), wanted is None)
            self.assertIs(alike(second, net), wanted is None)
            found = difference(net, second)
            self.assertEqual(found, wanted)
            self.assertEqual(difference(second, net), wanted)
            if found is not None:
                self.assertIs(found.__class__, tuple)
                self.assertTrue(all(part.__class__ is int for part in found))
            classes = parted_classes(net, second)
            self.assertIs(classes.__class__, tuple)
            self.assertTrue(all(place.__class__ is tuple for place in classes))
            self.assertEqual(classes, deciding.parted(one, other))
            self.assertEqual(parted_classes(second, net), classes)
        return wanted is None


class AlikeTest(AlikeCase):
    def test_the_example_of_the_document(self):
        late = Net.read("input x\ny = late(x, 1)\noutput y")
        one = Net.read("input x\ny = spread(every(x, 2), 3)\noutput y")
        other = Net.read("input x\ny = every(spread(x, 3), 2)\noutput y")
        slow = Net.read("input x\ns = spread(every(x, 2), 2)\ny = sum(s, late(s, 1))\noutput y")
        plain = Net.read("input z\nw = times(1, z)\noutput w")
        self.assertEqual([alike(joined(), late), alike(one, other), difference(slow, plain),
                          parted_classes(slow, plain)],
                         [True, True, (0, 0, 0, 1), ((0, 0, 0, 1), (0, 1, 0, 1))])

    def test_nets_written_otherwise_and_near_ones(self):
        answers = [self.check(text, line) for text, line in PAIRS
                   if deciding.joint_period(*map(deciding.answers_of, (text, line))) <= 12]
        self.assertGreater(answers.count(True), 50)
        self.assertGreater(answers.count(False), 30)

    def test_nets_with_little_in_common(self):
        for text, line in matching(TEXTS)[::2]:
            if deciding.joint_period(*map(deciding.answers_of, (text, line))) <= 12:
                self.check(text, line)

    def test_a_net_and_itself(self):
        for text in TEXTS[::4]:
            net = Net.read(text)
            for other in (net, Net.read(text)):
                self.assertIs(alike(net, other), True)
                self.assertIs(difference(net, other), None)
                self.assertEqual(parted_classes(net, other), ())

    def test_one_number_changed(self):
        base = "input x\ninput z\na = times(2/3, late(sum(x, b), 1))\nb = spread(every(z, 2), 2)\noutput a\noutput b"
        changes = [("2/3", "3/4"), ("2/3", "-2/3"), ("2/3", "0"), (", 1)", ", 2)"), ("every(z, 2)", "every(x, 2)"),
                   ("every(z, 2), 2", "every(z, 3), 3"), ("spread(every(z, 2), 2)", "every(spread(z, 2), 2)"),
                   ("sum(x, b)", "sum(x, z)"), ("sum(x, b)", "sum(b, x)"), ("output a\noutput b", "output b\noutput a")]
        answers = [self.check(base, base.replace(old, new)) for old, new in changes]
        self.assertEqual(answers, [False] * 8 + [True, False])

    def test_every_and_spread_exchanged(self):
        for down, up in itertools.product(range(1, 6), repeat=2):
            for before, behind in ((0, 0), (1, 0), (0, 1), (2, 3)):
                one = f"input x\ny = late(spread(every(late(x, {before}), {down}), {up}), {behind})\noutput y"
                other = f"input x\ny = late(every(spread(late(x, {before}), {up}), {down}), {behind})\noutput y"
                same_factor = {(2, 2), (3, 3), (4, 4), (5, 5), (2, 4), (4, 2)}
                self.assertIs(self.check(one, other), (down, up) not in same_factor)

    def test_delays_before_and_behind(self):
        for count in range(1, 4):
            for step in range(1, 4):
                behind = f"input x\ny = late(every(x, {step}), {count})\noutput y"
                before = f"input x\ny = every(late(late(x, {count}), {count * (step - 1)}), {step})\noutput y"
                if step * count <= 8:
                    self.assertIs(self.check(behind, before), True)
                near = f"input x\ny = every(late(x, {count}), {step})\noutput y"
                self.assertIs(self.check(behind, near), step == 1)

    def test_the_last_block_that_must_be_looked_at(self):
        ring = "input x\ny = sum(x, late(late(y, 6), 2))\noutput y"
        row = "input x\ny = sum(x, late(late(x, 6), 2))\noutput y"
        self.assertIs(self.check(ring, row), False)
        self.assertEqual(difference(Net.read(ring), Net.read(row)), (0, 0, 0, 16))
        nothing = "input x\ny = times(0, x)\noutput y"
        last = "input x\ny = late(late(x, 6), 2)\noutput y"
        self.assertEqual(difference(Net.read(last), Net.read(nothing)), (0, 0, 0, 8))
        slow = "input x\na = every(x, 6)\ny = late(late(a, 6), 2)\noutput y"
        none = "input x\ny = times(0, every(x, 6))\noutput y"
        self.assertIs(self.check(slow, none), False)
        self.assertEqual(parted_classes(Net.read(none), Net.read(slow)), ((0, 0, 0, 0),))
        apart = "input x\na = sum(every(x, 4), late(late(a, 6), 2))\ny = spread(a, 4)\noutput y"
        near = "input x\na = every(x, 4)\nb = late(late(a, 6), 2)\ny = spread(sum(a, b), 4)\noutput y"
        self.assertIs(self.check(apart, near), False)
        self.assertEqual(difference(Net.read(apart), Net.read(near)), (0, 0, 0, 64))

    def test_the_order_of_differences(self):
        one = Net.read("input x\ninput z\na = spread(x, 2)\nb = every(z, 2)\nc = sum(x, z)\noutput c\noutput a\noutput b")
        other = Net.read("input x\ninput z\na = late(spread(x, 2), 1)\nb = every(x, 2)\nc = sum(x, z)\noutput c\n"
                         "output a\noutput b")
        self.assertEqual(difference(one, other), (0, 0, 1, 0))
        third = Net.read("input x\ninput z\na = spread(x, 2)\nb = every(x, 2)\nc = sum(x, late(z, 1))\noutput c\n"
                         "output a\noutput b")
        self.assertEqual(difference(one, third), (1, 0, 0, 0))
        fourth = Net.read("input x\ninput z\na = sum(spread(x, 2), late(spread(z, 2), 1))\nb = every(z, 2)\n"
                          "c = sum(x, z, late(x, 1))\noutput c\noutput a\noutput b")
        self.assertEqual(difference(one, fourth), (1, 0, 1, 1))

    def test_the_earlier_one_of_two_outputs_with_other_rates(self):
        shapes = ("late(spread({0}, 3), {1})", "late(every({0}, 2), {1})", "late({0}, {1})", "late(spread({0}, 2), {1})",
                  "late(every(spread({0}, 3), 2), {1})")
        for one, other in itertools.permutations(shapes, 2):
            for first, second in itertools.product((0, 1, 2, 4), repeat=2):
                lines = [f"a = {one.format('x', first)}", f"b = {other.format('z', second)}"]
                text = "\n".join(["input x", "input z", *lines, "output b", "output a"])
                nothing = text.replace("(x,", "(w,").replace("(z,", "(w,").replace("output b", "w = times(0, x)\noutput b")
                self.assertIs(self.check(text, nothing), False)

    def test_names_do_not_matter(self):
        self.assertIs(alike(Net.read("input x\ninput y\noutput y"), Net.read("input y\ninput x\noutput x")), True)
        self.assertIs(alike(Net.read("input x\ninput y\noutput y"), Net.read("input y\ninput x\noutput y")), False)

    def test_by_name(self):
        self.assertIs(alike(other=halves(), one=halves()), True)
        self.assertIs(difference(other=halves(), one=halves()), None)
        self.assertEqual(parted_classes(other=held(2), one=one_net("x")), ((0, 0, 0, 1), (0, 1, 0, 1)))
        self.assertIs(alike_on(outputs=((0, 1),), inputs=((0, 1),), other=held(2), one=one_net("x")), False)


class AlikeOnTest(PromiseTest):
    def test_against_the_classes_that_are_parted(self):
        chance = random.Random(83)
        for text, line in PAIRS[::3]:
            one, other = deciding.answers_of(text), deciding.answers_of(line)
            turn = deciding.joint_period(one, other)
            if turn > 12:
                continue
            parted = deciding.parted(one, other)
            inputs = [(source, at) for source in range(one.many) for at in range(turn)]
            outputs = [(shown, at) for shown, rate in enumerate(one.rates) for at in range(int(turn * rate))]
            for _ in range(6):
                given = tuple(chance.choice(inputs) for _ in range(chance.choice((0, 1, 2, 5, 20))))
                looked = tuple(chance.choice(outputs) for _ in range(chance.choice((0, 1, 2, 5, 20))))
                wanted = not any(place[:2] in given and place[2:] in looked for place in parted)
                self.assertIs(alike_on(Net.read(text), Net.read(line), given, looked), wanted, (text, line))

    def test_each_pair_of_classes(self):
        one, other = held(3), one_net("x")
        parted = parted_classes(one, other)
        for source, shown in itertools.product(range(3), repeat=2):
            self.assertIs(alike_on(one, other, ((0, source),), ((0, shown),)), (0, source, 0, shown) not in parted)
            self.assertIs(alike_on(one, other, ((0, source), (0, source)), ((0, shown),) * 3),
                          (0, source, 0, shown) not in parted)

    def test_no_classes(self):
        self.assertIs(alike_on(held(3), one_net("x"), (), ()), True)
        self.assertIs(alike_on(held(3), one_net("x"), (), ((0, 1), (0, 2))), True)
        self.assertIs(alike_on(held(3), one_net("x"), ((0, 1), (0, 2)), ()), True)

    def test_wrong_inputs_and_outputs(self):
        net = Net.read("input x\ninput z\nc = sum(x, every(spread(z, 2), 2))\nd = spread(every(x, 2), 2)\n"
                       "e = spread(x, 2)\noutput d\noutput c\noutput e")
        for value in [*plain_values(), *number_values(), *signal_values(), 0, 1, [(0, 0)], net]:
            if not isinstance(value, tuple):
                self.fails(InvalidInputs, lambda: alike_on(net, net, value, ()), index=None)
                self.fails(InvalidInputs, lambda: alike_on(net, net, value, 5), index=None)
                self.fails(InvalidOutputs, lambda: alike_on(net, net, (), value), index=None)
            self.fails(InvalidInputs, lambda: alike_on(net, net, ((0, 0), value), ()), index=1)
            self.fails(InvalidOutputs, lambda: alike_on(net, net, ((0, 0),), ((1, 0), (0, 0), value)), index=2)
        for pair in ((2, 0), (0, 2), (-1, 0), (0, -1), (True, 0), (0, True), (False, 0), (0, False), (0,), (0, 0, 0),
                     [0, 0], ("0", "0"), (None, 0), (0, None), (10 ** 39, 0), (0, 10 ** 39), ((0, 0),)):
            self.fails(InvalidInputs, lambda: alike_on(net, net, (pair,), ()), index=0)
            self.fails(InvalidInputs, lambda: alike_on(net, net, ((1, 1), (0, 1), pair, pair), [pair]), index=2)
        for pair in ((3, 0), (0, 2), (1, 2), (2, 4), (-1, 0), (2, -1), (True, 0), (2, True), (0,), (0, 0, 0), [0, 0]):
            self.fails(InvalidOutputs, lambda: alike_on(net, net, (), (pair,)), index=0)
            self.fails(InvalidOutputs, lambda: alike_on(net, net, ((1, 1),), ((2, 3), (1, 1), pair)), index=2)
        self.assertIs(alike_on(net, net, ((1, 1), (0, 0)), ((2, 3), (1, 1), (0, 0))), True)

    def test_lists_are_left_as_they_are(self):
        given = [(0, 0)]
        self.fails(InvalidInputs, lambda: alike_on(held(2), held(2), given, ()), index=None)
        self.assertEqual(given, [(0, 0)])


class ErrorsTest(PromiseTest):
    def test_no_net(self):
        for function in FUNCTIONS:
            for value in no_nets():
                self.fails(NotANet, lambda: function(value, halves()), value=value)
                self.fails(NotANet, lambda: function(halves(), value), value=value)
                self.fails(NotANet, lambda: function(value, None), value=value)
                self.fails(NotANet, lambda: function(held(2), value), value=value)

    def test_nets_that_are_not_comparable(self):
        two = Net.read("input x\ninput z\noutput x")
        rows = [(one_net("x"), two), (halves(), thinned(2)), (thinned(2), thinned(3)), (filled(2), filled(4)),
                (one_net("x"), filled(2)), (Net.read("input x\na = every(x, 2)\noutput x\noutput a"),
                                            Net.read("input x\na = every(x, 2)\noutput a\noutput x"))]
        for one, other in rows:
            for function in FUNCTIONS:
                self.fails(NotComparable, lambda: function(one, other))
                self.fails(NotComparable, lambda: function(other, one))
            self.fails(NotComparable, lambda: alike_on(one, other, 5, 5))

    def test_joint_periods(self):
        def through(step):
            return Net.read(f"input x\ns = spread(every(x, {step}), {step})\noutput s")

        for one, other, period in ((3, 5, 15), (4, 5, 20), (5, 6, 30), (2, 5, 10), (3, 4, 12), (4, 6, 12)):
            for function in FUNCTIONS:
                if period > 12:
                    self.fails(TooLarge, lambda: function(through(one), through(other)), limit=12)
                    self.fails(TooLarge, lambda: function(through(other), through(one)), limit=12)
                else:
                    function(through(one), through(other))
            if period > 12:
                self.fails(TooLarge, lambda: alike_on(through(one), through(other), 5, 5), limit=12)
        unlike = Net.read("input x\ninput z\ns = spread(every(x, 5), 5)\noutput s")
        self.fails(NotComparable, lambda: alike(through(3), unlike))
        self.assertIs(alike(through(3), Net.read(same(str(through(3)), random.Random(1)))), True)

    def test_nothing_is_changed(self):
        one, other = running_sum(), one_net("x")
        before = (str(one), str(other))
        self.assertEqual(parted_classes(one, other), parted_classes(one, other))
        self.assertEqual((str(one), str(other)), before)


if __name__ == "__main__":
    unittest.main()
