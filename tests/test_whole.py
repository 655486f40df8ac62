"""The guarantees over nets thrown together, and the files of the program held against each other."""

import random
import unittest
from fractions import Fraction

from delaynets.alike import alike, alike_on, difference, parted_classes
from delaynets.certificates import (certify_alike, certify_ends, certify_kept, certify_machine, certify_settles,
                                    certify_told)
from delaynets.checker import holds
from delaynets.endings import ends, length_of, settles
from delaynets.machines import kept_numbers, normal_machine
from delaynets.nets import Net
from delaynets.numbers import Number
from delaynets.runs import Player, answers, run
from delaynets.shifts import copy_of, keeps_time, least_shift
from delaynets.telling import lost_input, teller, told_back
from delaynets.workshops import Workshop
from tests import deciding
from tests.examples import thrown
from tests.helpers import PromiseTest
from tests.reckoning import fractions
from tests.rewriting import near, pairs, same, shape
from tests.test_telling import mixed_inputs, shown_inputs

TEXTS = thrown(110, 171) + mixed_inputs(50, 172) + shown_inputs(50, 173)


def single(many, source, index, until):
    return [tuple(int((number, at) == (source, index)) for at in range(until)) for number in range(many)]


class PairsTest(PromiseTest):
    def test_alike_or_parted(self):
        chance = random.Random(174)
        for text, line in pairs(TEXTS, 175):
            one, other = Net.read(text), Net.read(line)
            turn = deciding.joint_period(deciding.answers_of(text), deciding.answers_of(line))
            if turn > 12:
                continue
            found, classes = difference(one, other), parted_classes(one, other)
            are_alike = alike(one, other)
            with self.subTest(one=text, other=line):
                self.assertIs(found is None, are_alike)
                self.assertIs(classes == (), are_alike)
                self.assertIs(normal_machine(one) == normal_machine(other), are_alike)
                sources = tuple((source, at) for source in range(len(one.inputs)) for at in range(turn))
                shown = tuple((output, at) for output, name in enumerate(one.outputs)
                              for at in range(turn * one.rate(name)[0] // one.rate(name)[1]))
                self.assertIs(alike_on(one, other, sources, shown), are_alike)
                self.assertIs(holds(*(certify_alike(one, other) or (None, None))),
                              found is None or max(found) <= 200)
                if are_alike:
                    self.are_the_same(one, other, chance)
                else:
                    self.are_parted(one, other, found, classes, turn)

    def are_the_same(self, one, other, chance):
        until = 4 * one.period + 3
        rows = [tuple(chance.choice((0, 2, -1, Number(3, 4))) for _ in range(until)) for _ in one.inputs]
        self.assertEqual(run(one, *rows), run(other, *rows))
        self.assertEqual((least_shift(one), ends(one), settles(one), told_back(one), kept_numbers(one)),
                         (least_shift(other), ends(other), settles(other), told_back(other), kept_numbers(other)))
        self.assertEqual(str(length_of(one)), str(length_of(other)))
        workshop = Workshop()
        workshop["n"] = one
        workshop.do(("demand", "n", ("alike", other)))

    def are_parted(self, one, other, found, classes, turn):
        source, index, output, at = found
        rate = Fraction(*one.rate(one.outputs[output]))
        self.assertIn((source, index, output, int(at % (turn * rate))), classes)
        self.assertEqual(classes, tuple(sorted(set(classes))))
        rows = single(len(one.inputs), source, index, int(at / rate) + 1)
        left, right = run(one, *rows)[output], run(other, *rows)[output]
        self.assertNotEqual(left[at], right[at])
        self.assertEqual(left[:at], right[:at])


class OneNetTest(PromiseTest):
    def test_time_and_turns(self):
        for text in TEXTS:
            net = Net.read(text)
            machine = normal_machine(net)
            self.assertEqual(machine.turn, least_shift(net))
            self.assertEqual(net.period % machine.turn, 0)
            for count in range(1, 13):
                self.assertIs(keeps_time(net, count), count % machine.turn == 0)

    def test_endings_and_machines(self):
        for text in TEXTS:
            net = Net.read(text)
            machine = normal_machine(net)
            if ends(net):
                self.assertIs(settles(net), True)
            if max(machine.sizes) == 0:
                self.assertIs(ends(net), True)
            length = length_of(net)
            if not ends(net):
                self.assertIs(length, None)
            elif length is not None:
                until = net.period * (net.kept + 3)
                longest = max(self.gaps(net, machine, until))
                self.assertEqual(Fraction(str(length)), longest)

    def gaps(self, net, machine, until):
        for source in range(len(net.inputs)):
            for index in range(machine.turn):
                shown = machine.run(until, *single(len(net.inputs), source, index, until))
                for rate, row in zip(machine.output_rates, shown):
                    yield from (at / Fraction(*rate) - index for at, number in enumerate(row) if number.sign)

    def test_copies_and_lengths(self):
        count = 0
        for text in TEXTS:
            net = Net.read(text)
            late = [copy_of(net, output, source) for output in range(len(net.outputs)) for source in range(len(net.inputs))]
            if all(any(late[output * len(net.inputs) + source] is not None for source in range(len(net.inputs)))
                   for output in range(len(net.outputs))):
                count += 1
                self.assertIs(ends(net), True)
                self.assertEqual(length_of(net), Number(max(delay for delay in late if delay is not None)))
                self.assertEqual(least_shift(net), 1)
                if len(net.inputs) == 1:
                    self.assertEqual(told_back(net), min(delay for delay in late if delay is not None))
        self.assertGreater(count, 5)

    def test_told_back_or_lost(self):
        chance = random.Random(176)
        for text in TEXTS:
            net = Net.read(text)
            delay, machine, lost = told_back(net), teller(net), lost_input(net)
            self.assertIs(lost is None, delay is not None)
            self.assertIs(machine is None, delay is None)
            if delay is None:
                many = len(lost[0])
                behind = (0,) * (net.period * (net.kept + 2))
                shown = run(net, *[row + behind for row in lost])
                self.assertFalse(any(number.sign for row in shown for number in row))
                rows = [tuple(chance.randint(-3, 3) for _ in range(many)) for _ in lost]
                more = [tuple(one + other for one, other in zip(row, line)) for row, line in zip(rows, lost)]
                self.assertEqual(run(net, *rows), run(net, *more))
            else:
                until = delay + 9
                rows = [tuple(chance.randint(-3, 3) for _ in range(until)) for _ in net.inputs]
                told = fractions(machine.run(until, *run(net, *rows)))
                self.assertEqual(told, tuple((0,) * delay + row[:until - delay] for row in rows))

    def test_certificates(self):
        for text in TEXTS:
            net = Net.read(text)
            machine = normal_machine(net)
            made, ended = certify_machine(net), certify_ends(net)
            settled, told = certify_settles(net), certify_told(net)
            for pair in (made, ended, settled, told, certify_kept(net, 0), certify_kept(net, 17)):
                self.assertTrue(pair is None or holds(*pair), pair)
            self.assertIs(made is None, len(machine.steps) > 72)
            self.assertIs(ended is None, not ends(net))
            self.assertIs(settled is None, not settles(net) or len(machine.steps) > 72)
            if told is not None:
                self.assertEqual(told[0][0], "lost" if told_back(net) is None else "told back")

    def test_certificates_of_one_net_for_another_one(self):
        chance = random.Random(177)
        for text in TEXTS[::2]:
            line = near(text, chance)
            if shape(text) != shape(line):
                continue
            one, other = Net.read(text), Net.read(line)
            if deciding.joint_period(deciding.answers_of(text), deciding.answers_of(line)) <= 12 and alike(one, other):
                continue
            for pair in (certify_machine(one), certify_settles(one)):
                if pair is not None:
                    self.assertIs(holds((pair[0][0], line, *pair[0][2:]), pair[1]), False)

    def test_piece_by_piece(self):
        chance = random.Random(178)
        for text in TEXTS[::2]:
            net = Net.read(text)
            machine, player = normal_machine(net), Player(net)
            rows = [tuple(chance.randint(-5, 5) for _ in range(7)) for _ in net.inputs]
            pieces = [player.feed(*samples) for samples in zip(*rows)]
            joined = tuple(tuple(number for piece in pieces for number in piece[at]) for at in range(len(net.outputs)))
            self.assertEqual(joined, run(net, *rows))
            self.assertEqual(joined, machine.run(7, *rows))

    def test_answers_and_machines(self):
        for text in TEXTS[::5]:
            net = Net.read(text)
            machine = normal_machine(net)
            for source in range(len(net.inputs)):
                blocks = list(answers(net, source, 1, until=3))
                joined = tuple(tuple(number for block in blocks for number in block[at]) for at in range(len(net.outputs)))
                until = 3 * net.period
                self.assertEqual(joined, machine.run(until, *single(len(net.inputs), source, 1, until)))

    def test_equal_calls(self):
        chance = random.Random(179)
        for text in TEXTS[::10]:
            one, other = Net.read(text), Net.read(text)
            self.equal(normal_machine(one), normal_machine(other))
            self.assertEqual((lost_input(one), teller(one)), (lost_input(other), teller(other)))
            self.assertEqual((certify_machine(one), certify_told(one)), (certify_machine(other), certify_told(other)))
            line = same(text, chance)
            self.assertEqual(certify_alike(one, Net.read(line)), certify_alike(other, Net.read(line)))
            self.assertEqual((str(one), one), (text, other))


if __name__ == "__main__":
    unittest.main()
