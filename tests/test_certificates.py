import random
import unittest
from fractions import Fraction

from delaynets.alike import difference
from delaynets.catalog import filled, halves, held, joined, running_sum, thinned
from delaynets.certificates import (certify_alike, certify_ends, certify_kept, certify_machine, certify_settles,
                                    certify_told)
from delaynets.checker import holds
from delaynets.endings import ends, length_of, settles
from delaynets.errors import InvalidCount, NotANet, NotComparable, TooLarge
from delaynets.machines import kept_numbers, normal_machine
from delaynets.nets import Net
from delaynets.numbers import Number
from delaynets.telling import lost_input, teller, told_back
from tests import deciding
from tests.examples import WRITTEN, thrown
from tests.helpers import PromiseTest, number_values, plain_values, signal_values
from tests.rewriting import pairs
from tests.test_checker import texts_of
from tests.test_runs import no_nets, one_net
from tests.test_telling import MIXED, SHOWN

TEXTS = WRITTEN + thrown(120, 151) + MIXED[::6] + SHOWN[::8]
ONE_NET = (certify_machine, certify_settles, certify_ends, certify_told, lambda net: certify_kept(net, 0))


class CertificateCase(PromiseTest):
    def accepted(self, pair, word, text):
        """Check the form of a pair, and that the checker accepts it; returns both parts."""
        self.assertIs(pair.__class__, tuple)
        claim, certificate = pair
        self.assertEqual((claim.__class__, certificate.__class__), (tuple, tuple))
        self.assertEqual(claim[:2], (word, text))
        self.assertIs(holds(claim, certificate), True, claim)
        return claim, certificate

    def rows(self, table, width):
        self.assertIs(table.__class__, tuple)
        for row in table:
            self.assertIs(row.__class__, tuple)
            self.assertEqual(len(row), width)
            self.assertTrue(all(number.__class__ is Number for number in row))


class ExampleTest(CertificateCase):
    def test_the_example_of_the_document(self):
        late = Net.read("input x\ny = late(x, 1)\noutput y")
        claim, certificate = certify_alike(joined(), late)
        self.assertEqual([claim[0], holds(claim, certificate), holds(claim, ()), certify_kept(halves(), 0)[0][2:],
                          certify_told(halves())[0][2], certify_told(thinned(2))[0][0],
                          holds(("lost", str(thinned(2)), (("0", "1"),)), ()),
                          holds(("lost", str(thinned(2)), (("1", "0"),)), ())],
                         ["alike", True, False, (2, 1), 1, "lost", True, False])


class AlikeTest(CertificateCase):
    def test_pairs(self):
        counts = {"alike": 0, "parted": 0}
        for text, line in pairs(TEXTS, 152):
            one, other = deciding.answers_of(text), deciding.answers_of(line)
            net, second = Net.read(text), Net.read(line)
            if deciding.joint_period(one, other) > 12:
                self.fails(TooLarge, lambda: certify_alike(net, second), limit=12)
                continue
            earliest = deciding.earliest(one, other)
            pair = certify_alike(net, second)
            if earliest is None:
                claim, certificate = self.accepted(pair, "alike", text)
                self.assertEqual(claim[1:], (text, line))
                self.rows(certificate, net.kept + second.kept)
                counts["alike"] += 1
            else:
                claim, certificate = self.accepted(pair, "parted", text)
                self.assertEqual((claim[1:], certificate), ((text, line, earliest), ()))
                self.assertIs(holds(("alike", text, line), ()), False)
                counts["parted"] += 1
        self.assertGreater(min(counts.values()), 20)

    def test_differences_at_the_bound(self):
        def slow(step, count, share):
            line = f"times({share}, late(late(a, {min(6, count)}), {max(0, count - 6)}))"
            return Net.read(f"input x\na = every(x, {step})\nb = {line}\nc = spread(spread(spread(b, {step}), 6), 2)\noutput c")

        # The samples that differ stand at the times 0 + step * count, and there are 12 in a time unit.
        for step, count, beyond in ((2, 8, False), (4, 4, False), (3, 6, True), (6, 3, True), (5, 4, True)):
            one, other = slow(step, count, 1), slow(step, count, 2)
            index = 12 * step * count
            self.assertEqual(difference(one, other), (0, 0, 0, index))
            self.assertIs(index > 200, beyond)
            if beyond:
                self.assertIs(certify_alike(one, other), None)
            else:
                self.accepted(certify_alike(one, other), "parted", str(one))
        for count, index in ((8, 200), (8, 192)):
            fast = "input x\na = every(x, 5)\nb = times({0}, late(late(a, 6), 2))\nc = spread(spread(b, 5), 5)\noutput c"
            if index == 192:
                fast = fast.replace("every(x, 5)", "every(x, 4)").replace("spread(spread(b, 5), 5)", "spread(spread(b, 4), 6)")
            one, other = Net.read(fast.format(1)), Net.read(fast.format(3))
            self.assertEqual(difference(one, other), (0, 0, 0, index))
            self.accepted(certify_alike(one, other), "parted", str(one))
        later = Net.read("input x\na = every(x, 5)\nb = times(1, late(late(a, 6), 2))\nc = spread(spread(b, 5), 5)\n"
                         "d = late(c, 0)\ne = spread(spread(late(b, 0), 5), 6)\noutput e")
        self.assertIs(certify_alike(later, Net.read(str(later).replace("times(1", "times(2"))), None)

    def test_errors(self):
        for value in no_nets():
            self.fails(NotANet, lambda: certify_alike(value, 0), value=value)
            self.fails(NotANet, lambda: certify_alike(halves(), value), value=value)
        self.fails(NotComparable, lambda: certify_alike(halves(), joined()))
        three = Net.read("input x\ns = spread(every(x, 3), 3)\noutput s")
        five = Net.read("input x\ns = spread(every(x, 5), 5)\noutput s")
        self.fails(TooLarge, lambda: certify_alike(three, five), limit=12)
        self.fails(NotComparable, lambda: certify_alike(three, thinned(2)))
        self.fails(NotComparable, lambda: certify_alike(Net.read("input x\ninput z\ns = spread(every(x, 5), 5)\noutput s"),
                                                        three))
        self.assertEqual(certify_alike(other=joined(), one=joined())[0][0], "alike")


class KeptTest(CertificateCase):
    def rank(self, one, tick):
        """How many numbers can be shown to be needed before a tick, within the bounds of claims."""
        begun = -(-tick // one.per_unit)
        columns = [(source, index) for source in range(one.many)
                   for index in range(max(0, begun - one.period * (one.kept + 1)), begun)]
        until = begun + one.period * (one.kept + 1) + 1
        rows = [(output, index) for output, index in deciding.futures(one, tick, until) if index <= 200]
        return len(deciding.independent(deciding.table(one, tick, rows, columns, until)))

    def check(self, text, tick):
        one, net = deciding.answers_of(text), Net.read(text)
        sizes = kept_numbers(net)
        pair = certify_kept(net, tick)
        many = sizes[tick % len(sizes)]
        possible = [at for at in range(tick, 201, len(sizes)) if self.rank(one, at) == many]
        if not possible:
            self.assertIs(pair, None, (text, tick))
            return None
        claim, certificate = self.accepted(pair, "kept at least", text)
        self.assertEqual(claim[2:], (possible[0], many), (text, tick))
        self.assertEqual([len(part) for part in certificate], [many, many])
        self.assertIs(holds((*claim[:3], many + 1), certificate), False)
        return claim[2]

    def test_nets_thrown_together(self):
        chance = random.Random(153)
        for text in TEXTS[::4]:
            for tick in (0, 1, chance.randint(2, 12)):
                self.check(text, tick)

    def test_ticks_at_which_there_is_none_yet(self):
        self.assertEqual([self.check(str(halves()), tick) for tick in (0, 1, 2, 3, 99, 100)], [2, 1, 2, 3, 99, 100])
        eight = "input x\ny = late(late(x, 6), 2)\noutput y"
        self.assertEqual([self.check(eight, tick) for tick in (0, 1, 7, 8, 9, 100)], [8, 8, 8, 8, 9, 100])
        slow = "input x\na = every(x, 6)\nb = late(late(a, 6), 2)\noutput b"
        self.assertEqual([self.check(slow, tick) for tick in (0, 1, 42, 43, 44, 48, 49)], [48, 43, 48, 43, 44, 48, 49])
        fast = "input x\na = late(x, 2)\nb = spread(a, 3)\noutput b"
        self.assertEqual([self.check(fast, tick) for tick in (0, 1, 2, 3, 4, 5, 6)], [6, 4, 5, 6, 4, 5, 6])

    def test_indexes_beyond_the_bound(self):
        # There are 4 samples in a time unit, so the last one that may be named is at the time 50, tick 200.
        four = "input x\na = late(x, 1)\nb = spread(a, 4)\noutput b"
        self.assertEqual([self.check(four, tick) for tick in (96, 97, 98, 99, 100)], [96, 97, 98, 99, 100])
        twelve = "input x\na = late(x, {0})\nb = spread(spread(a, 6), 2)\nc = every(x, 5)\noutput b\noutput c"
        for count in (1, 2, 6):
            for tick in (0, 1, 99, 100):
                self.check(twelve.format(count), tick)
        # A tick is an eighth of a time unit here; the samples of the slow output come late, with small indexes.
        both = "input x\na = late(every(x, 6), 1)\nb = spread(spread(x, 4), 2)\noutput a\noutput b"
        for tick in (0, 1, 50, 100):
            self.check(both, tick)
        far = "input x\na = spread(late(late(x, 6), 2), 6)\nb = spread(a, 2)\noutput b"
        self.assertEqual(self.check(far, 0), 96)
        self.assertEqual(self.check(far, 100), 100)
        slow = "input x\na = every(x, 6)\nb = late(late(a, 6), 2)\nc = spread(spread(spread(b, 6), 6), 2)\noutput c"
        for tick in (0, 1, 100):
            self.assertIs(self.check(slow, tick), None)
        self.assertEqual(self.check(slow.replace("late(late(a, 6), 2)", "late(a, 1)"), 0), 72)

    def test_the_last_tick_and_the_last_index(self):
        slow = "input x\na = every(x, 5)\nb = late({0})\nc = spread({1})\noutput b\noutput c"
        five = slow.format("late(a, 6), 2", "x, 5")
        self.assertEqual([self.check(five, tick) for tick in (0, 1, 25, 100)], [200, 176, 200, 200])
        self.assertIs(self.check(slow.format("late(a, 6), 2", "x, 6"), 0), None)
        eight = slow.format("a, 6", "spread(x, 4), 2")
        self.assertEqual([self.check(eight, tick) for tick in (0, 1, 2, 40, 41)], [None] * 5)
        self.assertEqual(self.check(slow.format("a, 5", "spread(x, 4), 2"), 0), 200)
        self.assertEqual(self.check(slow.format("a, 5", "spread(x, 4), 2"), 1), 161)
        late = "input x\na = every(x, {0})\nb = late(a, {1})\nc = spread(spread(spread(b, {0}), {2}), 2)\noutput c"
        self.assertEqual(self.check(late.format(5, 3, 4), 0), 120)
        self.assertIs(self.check(late.format(5, 3, 5), 0), None)
        self.assertIs(self.check(late.format(6, 2, 6), 0), None)
        self.assertEqual(self.check(late.format(6, 2, 5), 0), 120)

    def test_no_numbers(self):
        for tick in (0, 50, 100):
            self.assertEqual(certify_kept(one_net("x"), tick), (("kept at least", "input x\ny = x\noutput y", tick, 0),
                                                                ((), ())))

    def test_wrong_ticks(self):
        for value in [*plain_values(), *number_values(), *signal_values(), halves(), -1, 101, 200, 10 ** 39]:
            self.fails(InvalidCount, lambda: certify_kept(halves(), value), value=value)
            self.fails(NotANet, lambda: certify_kept(None, value), value=None)
        self.assertEqual(certify_kept(tick=0, net=halves())[0][2:], (2, 1))
        self.assertEqual(certify_kept(halves(), 100)[0][2:], (100, 1))


class OneNetTest(CertificateCase):
    def test_machines(self):
        for text in TEXTS:
            net = Net.read(text)
            machine = normal_machine(net)
            pair = certify_machine(net)
            if len(machine.steps) > 72:
                self.assertIs(pair, None)
                continue
            claim, certificate = self.accepted(pair, "made by", text)
            self.assertEqual(claim[2], texts_of(machine))
            self.rows(certificate, net.kept + machine.sizes[0])

    def test_settling(self):
        counts = {True: 0, False: 0}
        for text in TEXTS + ["input x\ny = sum(x, times(1/2, late(y, 2)), times(1/3, late(y, 1)))\noutput y"]:
            net = Net.read(text)
            machine = normal_machine(net)
            pair = certify_settles(net)
            counts[settles(net)] += 1
            if not settles(net) or len(machine.steps) > 72:
                self.assertIs(pair, None)
                continue
            claim, certificate = self.accepted(pair, "settles", text)
            self.assertEqual(claim[2], texts_of(machine))
            sums, square = certificate
            self.rows(sums, net.kept + machine.sizes[0])
            self.rows(square, machine.sizes[0])
            self.assertEqual(len(square), machine.sizes[0])
            self.assertEqual(sums, certify_machine(net)[1])
        self.assertGreater(min(counts.values()), 5)

    def test_ending(self):
        counts = {True: 0, False: 0}
        for text in TEXTS:
            net = Net.read(text)
            pair = certify_ends(net)
            counts[ends(net)] += 1
            if not ends(net):
                self.assertIs(pair, None)
                continue
            claim, certificate = self.accepted(pair, "ends", text)
            length = length_of(net)
            self.assertEqual((claim[2], certificate), ("0" if length is None else str(length), ()))
            if length is not None and length.sign:
                shorter = str(Fraction(str(length)) - Fraction(1, 100))
                self.assertIs(holds(("ends", text, shorter), ()), False)
        self.assertGreater(min(counts.values()), 5)
        self.assertEqual(certify_ends(one_net("times(0, x)")), (("ends", "input x\ny = times(0, x)\noutput y", "0"), ()))

    def test_telling(self):
        counts = {"told back": 0, "lost": 0}
        for text in TEXTS + MIXED[1::3]:
            net = Net.read(text)
            delay, pair = told_back(net), certify_told(net)
            if delay is None:
                claim, certificate = self.accepted(pair, "lost", text)
                self.assertEqual(certificate, ())
                self.assertEqual(claim[2], tuple(tuple(str(number) for number in row) for row in lost_input(net)))
                counts["lost"] += 1
                continue
            machine = teller(net)
            if len(machine.steps) > 72 or max(machine.sizes) > 40:
                self.assertIs(pair, None)
                continue
            claim, certificate = self.accepted(pair, "told back", text)
            self.assertEqual(claim[2:], (delay, texts_of(machine)))
            self.rows(certificate, net.kept + machine.sizes[0] + delay * len(net.inputs))
            if delay > 0:
                narrow = tuple(row[:net.kept + machine.sizes[0] + (delay - 1) * len(net.inputs)] for row in certificate)
                self.assertIs(holds(("told back", text, delay - 1, claim[3]), narrow), False)
            self.assertIs(holds(("lost", text, (("1",),) * len(net.inputs)), ()), False)
            counts["told back"] += 1
        self.assertGreater(min(counts.values()), 30)

    def test_the_claim_that_is_excluded(self):
        for text in TEXTS[::3]:
            net = Net.read(text)
            pair = certify_ends(net)
            told = certify_told(net)
            if pair is None:
                for length in ("0", "1", "100"):
                    self.assertIs(holds(("ends", text, length), ()), False)
            if told is not None and told[0][0] == "lost":
                through = tuple((tuple(() for _ in ()), (), ((),), (("1",),)) for _ in range(1))
                for delay in (0, 1, 6):
                    self.assertIs(holds(("told back", text, delay, (((1, 1),), ((1, 1),), through)), ()), False)

    def test_many_steps(self):
        for turn, ticks, beyond in ((6, 12, False), (5, 12, False), (1, 90, True), (6, 15, True)):
            step = f"spread(every(x, {turn}), {turn})"
            fast = "spread(spread({0}, 6), 2)" if ticks == 12 else ("spread(spread({0}, 3), 3)" if ticks == 90
                                                                   else "spread({0}, 3)")
            lines = [f"a = {step}", f"b = {fast.format('a')}", "c = late(b, 1)"]
            shown = ["c"]
            if ticks == 90:
                lines.append("d = spread(spread(a, 5), 2)")
                shown.append("d")
            if ticks == 15:
                lines.append("d = spread(a, 5)")
                shown.append("d")
            net = Net.read("\n".join(["input x", *lines, *[f"output {name}" for name in shown]]))
            self.assertEqual(len(normal_machine(net).steps), turn * ticks)
            self.assertIs(certify_machine(net) is None, beyond)
            self.assertIs(certify_settles(net) is None, beyond)
            self.assertIs(settles(net), True)
            self.accepted(certify_ends(net), "ends", str(net))

    def test_as_many_steps_of_a_teller_as_there_may_be(self):
        text = "input x\na = every(x, 6)\nb = sum(x, times(-1, spread(a, 6)), spread(late(a, 1), 6))\n" \
               "c = spread(spread(b, 6), 2)\noutput c"
        claim, _ = self.accepted(certify_told(Net.read(text)), "told back", text)
        self.assertEqual((claim[2], len(claim[3][2])), (6, 72))

    def test_many_steps_of_a_teller(self):
        text = "input x\na = spread(every(x, 6), 6)\nb = sum(x, times(-1, a))\nc = late(a, {0})\nd = spread({1}, 6)\n" \
               "e = spread(d, 2)\nf = spread(b, 5)\noutput e\noutput f"
        net = Net.read(text.format(1, "c"))
        self.assertEqual(told_back(net), 1)
        self.assertGreater(len(teller(net).steps), 72)
        self.assertIs(certify_told(net), None)

    def test_great_delays(self):
        slow = "input x\na = every(x, 6)\nb = late(late(a, 6), {0})\nc = sum(x, times(-1, spread(a, 6)), spread(b, 6))\n" \
               "output c"
        for count, delay in ((0, 36), (1, 42), (2, 48)):
            claim, _ = self.accepted(certify_told(Net.read(slow.format(count))), "told back", slow.format(count))
            self.assertEqual(claim[2], delay)
        two = Net.read("input x\ninput z\n" + slow.format(1).partition("\n")[2] + "\noutput z")
        self.assertEqual(told_back(two), 42)
        self.assertGreater(max(teller(two).sizes), 40)
        self.assertIs(certify_told(two), None)

    def test_catalog(self):
        for net in (halves(), joined(), running_sum(), held(1), held(4), thinned(4), filled(4)):
            self.accepted(certify_machine(net=net), "made by", str(net))
            if net != running_sum():
                self.accepted(certify_settles(net=net), "settles", str(net))
                self.accepted(certify_ends(net=net), "ends", str(net))
            self.accepted(certify_told(net=net), "lost" if net in (held(4), thinned(4)) else "told back", str(net))
        self.assertIs(certify_settles(running_sum()), None)
        self.assertIs(certify_ends(running_sum()), None)

    def test_no_net(self):
        for value in no_nets():
            for function in ONE_NET:
                self.fails(NotANet, lambda: function(value), value=value)


if __name__ == "__main__":
    unittest.main()
