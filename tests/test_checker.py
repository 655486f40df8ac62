import itertools
import random
import unittest
from fractions import Fraction

from delaynets.catalog import filled, halves, held, joined, running_sum, thinned
from delaynets.checker import holds
from delaynets.machines import Machine, normal_machine
from delaynets.nets import Net
from delaynets.numbers import Number
from tests import deciding
from tests.examples import WRITTEN, thrown
from tests.helpers import PromiseTest, number_values, plain_values, signal_values
from tests.rewriting import pairs

ONE = ((1, 1),)
X = "input x\noutput x"
LATE = "input x\ny = late(x, 1)\noutput y"
LATE2 = "input x\ny = late(x, 2)\noutput y"
SUM = str(running_sum())
HALF = "input x\ny = sum(x, times(1/2, late(y, 1)))\noutput y"
JOINED = str(joined())
THROUGH = (ONE, ONE, (((), (), ((),), (("1",),)),))
SUMMING = (ONE, ONE, (((("1",),), (("1",),), (("1",),), (("1",),)),))
HALVING = (ONE, ONE, (((("1/2",),), (("1",),), (("1/2",),), (("1",),)),))
HOLDING = (ONE, ONE, ((((),), (("1",),), ((),), (("1",),)), ((), (), (("1",),), (("0",),))))
GROWING = "input x\ny = sum(x, times(2, late(y, 1)))\noutput y"
DOUBLING = (ONE, ONE, (((("2",),), (("2",),), (("1",),), (("1",),)),))


def through(step):
    return f"input x\ns = spread(every(x, {step}), {step})\noutput s"


def texts_of(machine):
    return (machine.input_rates, machine.output_rates,
            tuple(tuple(tuple(tuple(str(number) for number in row) for row in table) for table in step)
                  for step in machine.steps))


def rank(rows):
    return len(deciding.independent([[Fraction(str(number)) for number in row] for row in rows]))


# A claim of each word that is true, with a certificate by hand.
TRUE = [
    (("alike", JOINED, LATE), ((1, 0, 0, 0, 0), (0, 1, 0, 0, 0), (0, 0, 1, -1, 0), (0, 0, 1, 0, -1))),
    (("alike", LATE, "input z\nw = times(1/2, late(times(2, z), 1))\noutput w"), ((2, -1),)),
    (("alike", X, "input z\noutput z"), ()),
    (("parted", SUM, X, (0, 0, 0, 1)), ()),
    (("parted", str(halves()), str(halves()).replace("-1", "-2"), (0, 1, 1, 1)), ()),
    (("kept at least", LATE2, 2, 2), (((0, 1), (0, 0)), ((0, 2), (0, 3)))),
    (("kept at least", LATE2, 1, 1), (((0, 0),), ((0, 2),))),
    (("kept at least", str(halves()), 4, 1), (((0, 3),), ((1, 2),))),
    (("kept at least", X, 0, 0), ((), ())),
    (("made by", SUM, SUMMING), ((1, -1),)),
    (("made by", X, THROUGH), ()),
    (("made by", str(held(2)), HOLDING), ((1, 0),)),
    (("settles", HALF, HALVING), (((1, -1),), ((1,),))),
    (("settles", HALF, HALVING), (((1, -1),), ((Number(4, 3),),))),
    (("settles", X, THROUGH), ((), ())),
    (("ends", JOINED, "1"), ()),
    (("ends", str(held(3)), "5/2"), ()),
    (("told back", LATE, 1, THROUGH), ((1, -1),)),
    (("told back", X, 0, THROUGH), ()),
    (("told back", SUM, 0, (ONE, ONE, (((("0",),), (("1",),), (("-1",),), (("1",),)),))), ((1, -1),)),
    (("lost", str(thinned(2)), (("0", "1"),)), ()),
    (("lost", "input x\ninput z\ny = sum(x, late(z, 1))\noutput y", (("0", "-1/2"), ("1/2", "0"))), ()),
]
# The zero sums of held(2): the sample of t before the beginning of a block is 0; the machine keeps none there.
TRUE[11] = (("made by", str(held(2)), HOLDING), ((1,),))


class TrueClaimsTest(PromiseTest):
    def accepts(self, claim, certificate):
        self.assertIs(holds(claim, certificate), True, (claim, certificate))

    def refuses(self, claim, certificate):
        self.assertIs(holds(claim, certificate), False, (claim, certificate))

    def test_claims_with_certificates_by_hand(self):
        for claim, certificate in TRUE:
            self.accepts(claim, certificate)
            self.assertIs(holds(claim=claim, certificate=certificate), True)
            self.assertIs(holds(certificate=certificate, claim=claim), True)

    def test_every_word_is_among_them(self):
        self.assertEqual(len({claim[0] for claim, _ in TRUE}), 8)

    def test_numbers_and_integers(self):
        self.accepts(TRUE[1][0], ((Number(2), Number(-1)),))
        self.accepts(TRUE[1][0], ((Number(2, 3), Number(-1, 3)),))
        self.accepts(TRUE[1][0], ((Number(1), Number(-1, 2)),))
        self.accepts(("settles", HALF, HALVING), (((Number(1), -1),), ((10 ** 39,),)))

    def test_other_zero_sums_for_the_same(self):
        claim, rows = TRUE[0]
        for order in itertools.permutations(rows):
            self.accepts(claim, order)
        self.accepts(claim, rows + rows)
        self.accepts(claim, rows + ((0,) * 5,))
        self.accepts(claim, ((3, 0, 0, 0, 0), (5, -1, 0, 0, 0), (1, 1, 2, -2, 0), (0, 0, 0, 1, -1)))
        self.accepts(claim, ((1, 1, 1, 1, -2), (0, 0, -1, 1, 0)))
        self.accepts(("alike", X, X), ((),))
        self.accepts(("alike", X, X), ((), ()))

    def test_certificates_changed_in_one_number(self):
        for claim, rows in (TRUE[0], TRUE[1], TRUE[9], TRUE[17], TRUE[19]):
            for at, place in itertools.product(range(len(rows)), range(len(rows[0]))):
                changed = [list(row) for row in rows]
                changed[at][place] += 2
                changed = tuple(map(tuple, changed))
                same_sums = rank(rows + changed) == rank(rows) == rank(changed)
                self.assertIs(holds(claim, changed), same_sums, (claim, changed))

    def test_rows_left_out_and_zeros(self):
        for claim, rows in (TRUE[0], TRUE[1], TRUE[9], TRUE[11], TRUE[17], TRUE[19]):
            for at in range(len(rows)):
                self.refuses(claim, rows[:at] + rows[at + 1:])
                self.refuses(claim, rows[:at] + (tuple(0 for _ in rows[at]),) + rows[at + 1:])
            self.refuses(claim, ())

    def test_rows_that_are_not_kept_at_0(self):
        for claim, rows in (TRUE[0], TRUE[1], TRUE[9], TRUE[17], TRUE[19]):
            width = len(rows[0])
            for at in range(width):
                unit = tuple(int(place == at) for place in range(width))
                self.assertIs(holds(claim, rows + (unit,)), rank(rows + (unit,)) == rank(rows), (claim, unit))

    def test_wrong_forms_of_zero_sums(self):
        for claim, rows in (TRUE[0], TRUE[1], TRUE[9], TRUE[17], TRUE[19]):
            for wrong in (list(rows), tuple(map(list, rows)), tuple(row[:-1] for row in rows),
                          tuple(row + (0,) for row in rows), tuple(row + (None,) for row in rows),
                          tuple((True,) + row for row in rows), rows[:-1] + (rows[-1] + ("0",),), rows[:-1] + (rows[-1][:-1],), rows + ((),), rows + (0,),
                          rows + (None,), rows[0], None, 0, "", rows + ((True,) * len(rows[0]),),
                          rows + (tuple("0" for _ in rows[0]),), tuple(tuple(map(str, row)) for row in rows),
                          (rows,), rows + ([0] * len(rows[0]),), {}, {rows: True}, set(rows)):
                self.refuses(claim, wrong)
        for claim in (("alike", X, X), ("made by", X, THROUGH), ("told back", X, 0, THROUGH)):
            for wrong in ([], None, ((0,),), ([],), 0, False, "", (None,)):
                self.refuses(claim, wrong)


class FalseClaimsTest(PromiseTest):
    def refuses(self, claim, *certificates):
        for certificate in certificates:
            self.assertIs(holds(claim, certificate), False, (claim, certificate))

    def test_alike(self):
        rows = TRUE[0][1]
        self.refuses(("alike", JOINED, X), (), tuple(row[:-1] for row in rows))
        self.refuses(("alike", JOINED, LATE2), tuple(row + (0,) for row in rows), rows)
        self.refuses(("alike", SUM, HALF), ((1, -1),), ((1, 0), (0, 1)), ((1, -2),), ())
        self.refuses(("alike", X, "input x\ny = times(2, x)\noutput y"), (), ((),))

    def test_no_zero_sums_show_what_is_false(self):
        for text, line in pairs(WRITTEN + thrown(60, 121), 122):
            one, other = deciding.answers_of(text), deciding.answers_of(line)
            if deciding.joint_period(one, other) > 12 or not deciding.differing(one, other):
                continue
            width = one.kept + other.kept
            units = tuple(tuple(int(at == place) for at in range(width)) for place in range(width))
            sums = tuple(tuple(int(at == place) - int(at == place + one.kept) for at in range(width))
                         for place in range(one.kept))
            self.refuses(("alike", text, line), (), units, sums, units[:-1], units[1:], sums[1:])
            chance = random.Random(text)
            for _ in range(5):
                self.refuses(("alike", text, line), tuple(tuple(chance.choice((-1, 0, 0, 1)) for _ in range(width))
                                                          for _ in range(chance.randint(0, width))))

    def test_parted(self):
        self.refuses(("parted", SUM, X, (0, 0, 0, 0)), ())
        self.refuses(("parted", SUM, X, (0, 1, 0, 1)), ())
        self.refuses(("parted", SUM, X, (0, 2, 0, 1)), ())
        self.refuses(("parted", SUM, SUM, (0, 0, 0, 1)), ())
        self.refuses(("parted", JOINED, LATE, (0, 0, 0, 1)), ())
        for certificate in [*plain_values(), ((),), 0, ((1, -1),)]:
            if certificate != () or not isinstance(certificate, tuple):
                self.refuses(("parted", SUM, X, (0, 0, 0, 1)), certificate)

    def test_parted_against_all_answers(self):
        chance = random.Random(123)
        for text, line in pairs(WRITTEN + thrown(60, 124), 125):
            one, other = deciding.answers_of(text), deciding.answers_of(line)
            if deciding.joint_period(one, other) > 12:
                continue
            found = deciding.differing(one, other)
            for _ in range(4):
                source, at = chance.randrange(one.many), chance.randrange(20)
                output = chance.randrange(len(one.rates))
                index = chance.randrange(int(20 * one.rates[output]) + 1)
                rows, lines = one.rows(source, at, 50), other.rows(source, at, 50)
                wanted = rows[output][index] != lines[output][index]
                self.assertIs(holds(("parted", text, line, (source, at, output, index)), ()), wanted)
            for _, output, index, source, at in found[:3]:
                if index <= 200:
                    self.assertIs(holds(("parted", text, line, (source, at, output, index)), ()), True)
                    self.assertIs(holds(("parted", line, text, (source, at, output, index)), ()), True)

    def test_kept_at_least(self):
        good = (((0, 1), (0, 0)), ((0, 2), (0, 3)))
        claim = ("kept at least", LATE2, 2, 2)
        self.assertIs(holds(claim, good), True)
        self.refuses(("kept at least", LATE2, 2, 1), good, (((0, 1),), ((0, 2),)))
        self.refuses(("kept at least", LATE2, 2, 3), good, (((0, 1), (0, 0), (0, 0)), ((0, 2), (0, 3), (0, 4))))
        self.refuses(("kept at least", LATE2, 1, 2), good)
        self.refuses(("kept at least", LATE2, 3, 2), good)
        self.refuses(claim, (((0, 1), (0, 1)), ((0, 2), (0, 3))), (((0, 1), (0, 0)), ((0, 2), (0, 2))),
                     (((0, 1), (0, 0)), ((0, 3), (0, 4))), (((0, 2), (0, 0)), ((0, 2), (0, 3))),
                     (((0, 1), (0, 0)), ((0, 1), (0, 3))), good[::-1], (good[0],), good + ((),), (good[0], ()), ((), ()),
                     (list(good[0]), good[1]), (good[0], list(good[1])), list(good), None, (),
                     (((0, 1), [0, 0]), good[1]), (((0, 1), (0, False)), good[1]), (((0, 1), (False, 0)), good[1]),
                     (((0, 1), (1, 0)), good[1]), (((0, 1), (-1, 0)), good[1]), (((0, 1), (0, -1)), good[1]),
                     (((0, 1), (0,)), good[1]), (((0, 1), (0, 0, 0)), good[1]), (((0, 1), None), good[1]),
                     (good[0], ((0, 2), (1, 3))), (good[0], ((0, 2), (0, 3, 0))), (good[0], ((0, 2), ("0", 3))))
        self.assertIs(holds(claim, (good[0][::-1], good[1])), True)
        self.assertIs(holds(claim, (good[0], good[1][::-1])), True)

    def test_kept_at_least_at_several_ticks_in_a_time_unit(self):
        text = "input x\na = late(x, 1)\nb = spread(a, 3)\noutput b"
        # Before tick 4, 5 and 6 the samples 1, 1 and 1 are to come; the sample at the time 1 comes at tick 6.
        for tick, past, future, wanted in ((3, 0, 3, True), (4, 0, 3, False), (4, 1, 6, True), (6, 1, 6, True),
                                           (6, 1, 7, False), (3, 1, 6, False), (7, 1, 6, False), (7, 2, 9, True),
                                           (4, 1, 5, False), (2, 0, 3, True), (1, 0, 3, True), (0, 0, 3, False)):
            self.assertIs(holds(("kept at least", text, tick, 1), (((0, past),), ((0, future),))), wanted, tick)

    def test_made_by(self):
        self.refuses(("made by", HALF, SUMMING), ((1, -1),), (), ((1, 0), (0, 1)))
        self.refuses(("made by", SUM, HALVING), ((1, -1),))
        self.refuses(("made by", LATE, THROUGH), (), ((1,),))
        self.refuses(("made by", str(held(2)), THROUGH), (), ((1,),))
        two = "input x\ninput z\noutput x"
        self.refuses(("made by", two, THROUGH), ())
        self.refuses(("made by", "input x\noutput x", (((1, 1), (1, 1)), ONE, (((), (), ((),), (("1", "0"),)),))), ())
        self.refuses(("made by", "input x\noutput x", (ONE, ONE * 2, (((), (), ((), ()), (("1",), ("1",))),))), ())
        self.refuses(("made by", str(thinned(2)), THROUGH), ())
        self.refuses(("made by", "input x\ny = times(0, x)\noutput y",
                      (((1, 2),), ONE, (((), (), ((),), (("0",),)), ((), (), ((),), ((),))))), ())

    def test_settles(self):
        sums = ((1, -1),)
        claim = ("settles", HALF, HALVING)
        self.refuses(claim, (sums, ((0,),)), (sums, ((-1,),)), (sums, ((),)), (sums, ()), (sums, ((1, 0), (0, 1))),
                     (sums, ((1,), (1,))), (sums, [(1,)]), (sums, ([1],)), (sums, (1,)), (sums, ((True,),)),
                     (sums, (("1",),)), ((), ((1,),)), (((1, 1),), ((1,),)), (sums,), sums, (sums, ((1,),), ()), None,
                     [sums, ((1,),)])
        self.refuses(("settles", SUM, SUMMING), (((1, -1),), ((1,),)), (((1, -1),), ((0,),)), (((1, -1),), ((-1,),)))
        self.refuses(("settles", GROWING, DOUBLING), *[(((2, -1),), ((number,),)) for number in (-2, -1, 0, 1, 2)])
        self.assertIs(holds(("made by", GROWING, DOUBLING), ((2, -1),)), True)
        self.refuses(("settles", SUM, HALVING), (sums, ((1,),)))
        self.refuses(("settles", X, THROUGH), ((), ((),)), ((), ((1,),)), ((), None))

    def test_settles_with_two_numbers(self):
        text = "input x\ny = sum(x, times(1/2, late(y, 2)))\noutput y"
        machine = (ONE, ONE, (((("0", "1"), ("1/2", "0")), (("0",), ("1/2",)), (("1", "0"),), (("1",),)),))
        # The machine keeps y[t-2]/2 and y[t-1]/2.
        sums = ((0, 1, -2, 0), (1, 0, 0, -2))
        self.assertIs(holds(("made by", text, machine), sums), True)
        for table, wanted in ((((2, 0), (0, 3)), True), (((1, 0), (0, 1)), False), (((1, 0), (0, 5)), False),
                              (((2, 1), (1, 3)), True), (((2, 1), (0, 3)), False), (((2, 0), (1, 3)), False),
                              (((-2, 0), (0, -3)), False), (((2, 3), (3, 3)), False), (((0, 1), (1, 0)), False),
                              (((1, 0), (0, Number(3, 2))), True), (((1, 0), (0, Number(4, 1))), False)):
            self.assertIs(holds(("settles", text, machine), (sums, table)), wanted, table)

    def test_settles_over_a_turn_of_several_steps(self):
        text = "input x\na = sum(every(x, 2), times(1/2, late(a, 1)))\nb = spread(a, 2)\noutput b"
        steps = (((("1/2",),), (("1/2",),), (("1",),), (("1",),)), ((("1",),), (("0",),), (("0",),), (("0",),)))
        machine = (ONE, ONE, steps)
        self.assertIs(holds(("settles", text, machine), (((1, -2),), ((1,),))), True)
        self.assertIs(holds(("settles", text, machine), (((1, -1),), ((1,),))), False)
        doubled = text.replace("1/2", "2")
        steps = (((("2",),), (("2",),), (("1",),), (("1",),)), ((("1",),), (("0",),), (("0",),), (("0",),)))
        self.assertIs(holds(("made by", doubled, (ONE, ONE, steps)), ((2, -1),)), True)
        self.refuses(("settles", doubled, (ONE, ONE, steps)), (((2, -1),), ((1,),)), (((2, -1),), ((-1,),)))

    def test_settles_with_steps_at_which_nothing_is_read_or_written(self):
        text = "input x\na = spread(x, 2)\nb = spread(x, 3)\noutput a\noutput b"
        lead = {"one": (("1",),), "half": (("1/2",),), "third": (("1/3",),), "three": (("3",),), "up": ((),), "down": (),
                "two": (("1", "0"), ("0", "3")), "wide": (("1",), ("1",)), "narrow": (("1", "1"),)}

        def step(tick, word, size):
            inside = lead[word]
            reads = 1 if tick == 0 else 0
            shown = {0: 2, 2: 1, 3: 1, 4: 1}.get(tick, 0)
            give = (("1",) if tick == 0 else (),) * shown
            return (inside, tuple(("1",) * reads for _ in inside), (("0",) * size,) * shown, give)

        rates = ((2, 1), (3, 1))
        for words, wanted in (("one half one one one one", True), ("one three one one one one", False),
                              ("half three one one one half", True), ("half three one one one one", False),
                              ("one half one one one three", False), ("one down up one one one", True),
                              ("one one one one down up", True), ("one wide two two narrow half", False),
                              ("wide two narrow third one one", False), ("wide two narrow third one half", True),
                              ("half half one one one one", True), ("one one one one one half", True),
                              ("one one one one one one", False), ("three down up one one three", True)):
            sizes = {"up": 0, "two": 2, "narrow": 2}
            words = words.split()
            steps = tuple(step(tick, word, sizes.get(word, 1)) for tick, word in enumerate(words))
            machine = (ONE, rates, steps)
            self.assertIs(holds(("made by", text, machine), ()), True, words)
            self.assertIs(holds(("settles", text, machine), ((), ((1,),))), wanted, words)

    def test_ends(self):
        for text, lengths in ((JOINED, {"1": True, "0": False, "1/2": False, "2": True, "99/100": False, "101/100": True,
                                        "9" * 39: True}),
                              (X, {"0": True, "1/9": True}), (SUM, {"0": False, "100": False, "9" * 39: False}),
                              (str(filled(3)), {"0": True}), (str(held(4)), {"3": True, "2": False, "11/4": False}),
                              ("input x\na = late(spread(x, 3), 4)\noutput a", {"4/3": True, "1": False, "5/4": False}),
                              ("input x\na = late(late(every(x, 6), 6), 2)\noutput a", {"48": True, "47": False}),
                              ("input x\na = times(0, x)\noutput a", {"0": True})):
            for length, wanted in lengths.items():
                self.assertIs(holds(("ends", text, length), ()), wanted, (text, length))
        self.refuses(("ends", JOINED, "1"), *[value for value in plain_values() if value != ()], ((),))

    def test_ends_against_answers(self):
        for text in WRITTEN + thrown(60, 126):
            one = deciding.answers_of(text)
            until = one.period * (2 * one.kept + 4)
            gaps = [index / rate - at for source in range(one.many) for at in range(one.period)
                    for rate, row in zip(one.rates, one.rows(source, at, until)) for index, n in enumerate(row) if n]
            longest = max(gaps, default=0)
            ends = longest <= one.period * (one.kept + 1)
            self.assertIs(holds(("ends", text, str(longest)), ()), ends, text)
            self.assertIs(holds(("ends", text, str(longest + 1)), ()), ends)
            if longest:
                self.assertIs(holds(("ends", text, str(longest - deciding.Fraction(1, 50))), ()), False)

    def test_told_back(self):
        self.refuses(("told back", LATE, 0, THROUGH), (), ((1,),), ((1, -1),))
        self.refuses(("told back", LATE, 2, THROUGH), ((1, -1, 0),), ((1, 0, -1),), ((1, -1, 0), (0, 0, 1)), ())
        self.refuses(("told back", SUM, 0, THROUGH), (), ((1,),))
        self.refuses(("told back", str(thinned(2)), 0, (((1, 2),), ONE, (((), (), ((),), (("1",),)),
                                                                        ((), (), ((),), ((),))))), ())
        later = (ONE, ONE, (((("0",),), (("1",),), (("1",),), (("0",),)),))
        self.assertIs(holds(("told back", LATE, 2, later), ((1, 0, -1, 0), (0, 1, 0, -1))), True)
        self.assertIs(holds(("told back", X, 1, later), ((1, -1),)), True)
        # Both inputs at once, with the last samples of the first one ahead of those of the second one.
        two = "input x\ninput z\na = late(x, 2)\nb = late(z, 1)\noutput b\noutput a"
        machine = (ONE * 2, ONE * 2, (((("0",),), (("1", "0"),), (("0",), ("1",)), (("0", "1"), ("0", "0"))),))
        sums = ((1, 0, 0, 0, -1, 0, 0, 0), (0, 1, 0, 0, 0, -1, 0, 0), (0, 0, 1, 0, 0, 0, -1, 0), (0, 0, 0, 1, 0, 0, 0, -1))
        self.assertIs(holds(("told back", two, 2, machine), sums), True)
        swapped = tuple(row[:4] + row[6:] + row[4:6] for row in sums)
        self.refuses(("told back", two, 2, machine), swapped, sums[1:], sums[:3])
        crossed = (ONE * 2, ONE * 2, (((("0",),), (("1", "0"),), (("1",), ("0",)), (("0", "0"), ("0", "1"))),))
        self.refuses(("told back", two, 2, crossed), sums, swapped)

    def test_told_back_with_other_rates(self):
        text = str(halves())
        machine = (((1, 2), (1, 2)), ONE, ((((),), (("1/2", "1/2"),), ((),), (("1/2", "-1/2"),)),
                                           ((), (), (("1",),), ((),))))
        # Kept are x[t-1] twice, by the net, nothing by the teller, and x[t-1], the last sample.
        self.assertIs(holds(("told back", text, 1, machine), ((1, 0, -1), (0, 1, -1))), True)
        self.refuses(("told back", text, 1, machine), ((1, 0, -1),), ((0, 1, -1),), ((1, -1, 0),))
        self.refuses(("told back", text, 0, machine), ((1, 0), (0, 1)), ((1, -1),))
        self.refuses(("told back", X, 1, machine), ((-1,),))

    def test_lost(self):
        text = str(thinned(2))
        for rows, wanted in (((("0", "1"),), True), ((("0", "1", "0", "-7/3"),), True), ((("1", "0"),), False),
                             ((("0", "1", "1"),), False), ((("0", "0"),), False), (((),), False), ((), False),
                             ((("0", "1"), ("0", "0")), False), ((("0", 1),), False), ((("0", "01"),), False),
                             ((("0", Number(1)),), False), ((["0", "1"],), False), ([("0", "1")], False),
                             (("0", "1"), False), ((("0", "2/2"),), False), ((("0", "1"), None), False), (None, False)):
            self.assertIs(holds(("lost", text, rows), ()), wanted, rows)
        self.refuses(("lost", text, (("0", "1"),)), *[value for value in plain_values() if value != ()], ((),))
        two = "input x\ninput z\ny = sum(x, times(-1, z))\nyy = every(y, 2)\noutput yy\noutput y"
        for rows, wanted in (((("1",), ("1",)), True), ((("1",), ("2",)), False), ((("1", "0"), ("1",)), False),
                             ((("0", "3"), ("0", "3")), True), ((("1",),), False), ((("1",), ("1",), ("0",)), False)):
            self.assertIs(holds(("lost", two, rows), ()), wanted, rows)

    def test_zeros_behind_a_lost_input(self):
        self.refuses(("lost", "input x\ny = late(late(x, 6), 2)\noutput y", (("1",),)), ())
        self.refuses(("lost", "input x\na = every(x, 6)\ny = late(late(a, 6), 2)\noutput y", (("1",),)), ())
        self.assertIs(holds(("lost", "input x\na = every(x, 6)\ny = late(late(a, 6), 2)\noutput y",
                             (("0", "1", "1", "1", "1", "1"),)), ()), True)
        ring = "input x\ny = sum(x, times(2, late(y, 1)))\nz = late(late(y, 6), 1)\noutput z"
        self.refuses(("lost", ring, (("1",),)), ())
        self.assertIs(holds(("lost", "input x\nz = times(0, x)\noutput z", (("1",) * 200,)), ()), True)
        slow = "input x\na = sum(every(x, 5), late(a, 1))\nb = late(late(a, 1), 6)\nc = sum(b, times(-1, late(b, 0)))\n"
        self.assertIs(holds(("lost", slow + "output c", (("1",),)), ()), True)
        self.refuses(("lost", slow + "output b", (("1",),)), ())


class BoundsTest(PromiseTest):
    def check(self, claim, certificate, wanted):
        self.assertIs(holds(claim, certificate), wanted, (claim[0], claim[-1]))

    def test_joint_periods(self):
        for one, other, wanted in ((3, 4, True), (4, 6, True), (2, 5, True), (3, 5, False), (4, 5, False)):
            zeros = ["input x\na = " + f"times(0, {line})\noutput a" for line in
                     (f"spread(every(x, {one}), {one})", f"spread(every(x, {other}), {other})")]
            self.check(("alike", *zeros), (), wanted)
            self.check(("parted", through(one), through(other), (0, one, 0, one)), (), wanted)

    def test_turns(self):
        def waiting(turn):
            return (ONE, ONE, (((), (), ((),), (("1",),)),) * turn)

        for turn, wanted in ((1, True), (5, True), (12, True), (13, False), (24, False)):
            self.check(("made by", X, waiting(turn)), (), wanted)
            self.check(("told back", X, 0, waiting(turn)), (), wanted)
            self.check(("settles", X, waiting(turn)), ((), ()), wanted)
        for step, turn, wanted in ((3, 4, True), (3, 5, False), (4, 6, True), (5, 4, False), (6, 12, True)):
            steps = tuple(((), (), ((),), (("1" if at % step == 0 else "0",),)) for at in range(step * turn))
            self.check(("made by", through(step), (ONE, ONE, steps[:step])), (), True)
            zero = f"input x\na = every(x, {step})\noutput x"
            self.check(("made by", zero, waiting(turn)), (), wanted)
            self.check(("told back", zero, 0, waiting(turn)), (), wanted)

    def test_steps(self):
        fast = "input x\na = spread(spread(x, 6), 2)\noutput a"
        for turn, wanted in ((1, True), (6, True), (7, False), (8, False), (12, False)):
            steps = (((), (), ((),), (("1",),)),) + (((), (), ((),), ((),)),) * 11
            machine = (ONE, ((12, 1),), steps * turn)
            self.check(("made by", fast, machine), (), wanted)
            self.check(("settles", fast, machine), ((), ()), wanted)
            told = (((12, 1),), ONE, ((((), (), ((),), (("1",),)),) + (((), (), (), ()),) * 11) * turn)
            self.check(("told back", fast, 0, told), (), wanted)
        six = Net.read("input x\ny = spread(x, 6)\noutput y")
        self.check(("made by", str(six), texts_of(Machine(ONE, ((6, 1),), normal_machine(six).steps * 12))), (), True)

    def test_numbers_kept(self):
        for size, wanted in ((0, True), (1, True), (40, True), (41, False), (60, False)):
            zeros = ("0",) * size
            step = ((zeros,) * size, (("1",),) * size, (zeros,), (("1",),))
            self.check(("made by", X, (ONE, ONE, (step,))), (), wanted)
            square = tuple(tuple(int(at == to) for to in range(size)) for at in range(size))
            self.check(("settles", X, (ONE, ONE, (step,))), ((), square), wanted)
            self.check(("told back", X, 0, (ONE, ONE, (step,))), (), wanted)
            taken = ((), (), (zeros,), (("1",),))
            given = ((zeros[:0],) * size, (("1",),) * size, ((),), (("1",),))
            self.check(("made by", X, (ONE, ONE, (given, taken))), (), wanted)

    def test_delays(self):
        def shifting(size):
            rows = tuple(tuple(str(int(to == at + 1)) for to in range(size)) for at in range(size))
            first = (tuple(str(int(at == 0)) for at in range(size)),)
            return (ONE, ONE, ((rows, tuple((str(int(at == size - 1)),) for at in range(size)), first, (("0",),)),))

        for late in (1, 2, 40):
            sums = tuple(tuple(int(at == place) - int(at == 2 * late - 1 - place) for at in range(2 * late))
                         for place in range(late))
            self.check(("told back", X, late, shifting(late)), sums, True)
            self.check(("told back", X, late - 1, shifting(late)), sums, False)
        for late in (-1, 61, 10 ** 39, True, False, None, "1", Number(1), (1,)):
            self.check(("told back", LATE, late, THROUGH), ((1, -1),), False)
        for late in (59, 60, 61):
            self.check(("told back", X, late, THROUGH), (), False)

    def test_ticks_and_indexes(self):
        for tick, wanted in ((1, True), (199, True), (200, True), (201, False), (0, False), (-1, False)):
            self.check(("kept at least", LATE, tick, 1), (((0, tick - 1),), ((0, tick),)), wanted)
        self.check(("kept at least", LATE2, 199, 2), (((0, 197), (0, 198)), ((0, 199), (0, 200))), True)
        self.check(("kept at least", LATE2, 200, 2), (((0, 198), (0, 199)), ((0, 200), (0, 201))), False)
        self.check(("kept at least", X, 200, 0), ((), ()), True)
        self.check(("kept at least", X, 201, 0), ((), ()), False)
        for value in (True, None, "1", Number(1), (1,), [1]):
            self.check(("kept at least", LATE, value, 1), (((0, 0),), ((0, 1),)), False)
            self.check(("kept at least", LATE, 1, value), (((0, 0),), ((0, 1),)), False)
        self.check(("kept at least", X, False, 0), ((), ()), False)
        self.check(("kept at least", X, 0, False), ((), ()), False)
        self.check(("kept at least", X, 0, -1), ((), ()), False)
        self.check(("kept at least", LATE, 100, 41), (((0, 99),) * 41, ((0, 100),) * 41), False)
        for place, wanted in (((0, 0, 0, 200), True), ((0, 0, 0, 201), False), ((0, 199, 0, 200), True),
                              ((0, 200, 0, 200), False), ((0, 200, 0, 201), False), ((0, 0, 0, 10 ** 39), False),
                              ((0, -1, 0, 1), False), ((0, 0, 0, -1), False), ((-1, 0, 0, 1), False),
                              ((1, 0, 0, 1), False), ((0, 0, 1, 1), False), ((0, 0, -1, 1), False), ((0, 0, 0), False),
                              ((0, 0, 0, 1, 0), False), ([0, 0, 0, 1], False), ((False, 0, 0, 1), False),
                              ((0, False, 0, 1), False), ((0, 0, False, 1), False), ((0, 0, 0, True), False),
                              (("0", 0, 0, 1), False), (None, False), ((), False), ((0, 0, 0, Number(1)), False)):
            self.check(("parted", SUM, X, place), (), wanted)
        slow = "input x\na = sum(every(x, 6), late(a, 1))\noutput a"
        self.check(("parted", slow, slow.replace("sum(every", "sum(times(0, every").replace("6)", "6))"), (0, 0, 0, 200)),
                   (), True)
        self.check(("kept at least", slow, 200, 1), (((0, 6),), ((0, 200),)), True)

    def test_lengths_of_lost_inputs(self):
        for many, wanted in ((2, True), (200, True), (202, False), (500, False)):
            self.check(("lost", str(thinned(2)), (("0",) * (many - 1) + ("1",),)), (), wanted)
        self.check(("lost", str(thinned(3)), (("0",) * 199 + ("1",),)), (), True)
        self.check(("lost", str(thinned(3)), (("0",) * 200 + ("1",),)), (), False)

    def test_lengths_of_ends(self):
        for value in ("-1", "-1/2", "", "1.0", "01", "+1", " 1", "1 ", "1\n", "2/2", "1/0", "x", 1, Number(1), True, None,
                      ("1",), ["1"], b"1"):
            self.check(("ends", JOINED, value), (), False)


class NoClaimsTest(PromiseTest):
    def test_any_two_values(self):
        values = [*plain_values(), *number_values(), *signal_values(), 0, 1, -1, halves(), normal_machine(halves()),
                  "alike", ("alike",), ("alike", X, X), ["alike", X, X], ("alike", [X, X])]
        for claim, certificate in itertools.product(values, repeat=2):
            wanted = claim == ("alike", X, X) and isinstance(certificate, tuple) and certificate == ()
            self.assertIs(holds(claim, certificate), wanted, (claim, certificate))

    def test_other_words_and_lengths(self):
        for claim, certificate in TRUE:
            for wrong in (claim[:-1], claim + ((),), claim + (None,), claim[:1], claim[1:], (), list(claim),
                          (claim[0].upper(), *claim[1:]), (claim[0] + " ", *claim[1:]), (None, *claim[1:]),
                          (0, *claim[1:]), (claim[:1], *claim[1:]), (["alike"], *claim[1:]), (claim,)):
                self.assertIs(holds(wrong, certificate), False, wrong)
        for one, other in itertools.permutations(TRUE, 2):
            # A net without kept samples needs no more than its own text.
            if one[0][0] != other[0][0] and one[0][1] != X:
                self.assertIs(holds((other[0][0], *one[0][1:]), one[1]), False)

    def test_texts_of_nets(self):
        wrong = [*plain_values(), *number_values(), Net.read(X), 0, "input x\n\noutput x", X + "\n", " " + X,
                 "input x\noutput  x", "input x", "output x", "input x\ny = late(x,1)\noutput y",
                 "input x\noutput y", "input x\ny = late(y, 0)\noutput y", "input x\ny = every(y, 2)\noutput y",
                 "input x\ny = sum(x, every(x, 2))\noutput y", "input x\ny = sum(x, late(late(x, 6), 3))\noutput y",
                 "input x\na = every(x, 6)\nb = every(a, 2)\noutput b", "input x\ny = times(100, x)\noutput y",
                 "input x\na = spread(spread(x, 6), 3)\noutput a"]
        for claim, certificate in TRUE:
            for place in (1, 2) if claim[0] in ("alike", "parted") else (1,):
                for value in wrong:
                    given = list(claim)
                    given[place] = value
                    self.assertIs(holds(tuple(given), certificate), False, (claim[0], value))

    def test_nets_that_are_not_comparable(self):
        two = "input x\ninput z\noutput x"
        for one, other in ((X, two), (X, str(thinned(2))), (str(halves()), str(thinned(2))), (X, str(filled(2)))):
            for left, right in ((one, other), (other, one)):
                self.assertIs(holds(("alike", left, right), ()), False)
                self.assertIs(holds(("parted", left, right, (0, 1, 0, 1)), ()), False)

    def test_machines(self):
        good = SUMMING
        step = good[2][0]
        wrong = [*plain_values(), *number_values(), 0, normal_machine(running_sum()), good[:2], good + ((),), list(good),
                 (ONE, ONE, [step]), (ONE, ONE, (list(step),)), (ONE, ONE, ()), (ONE, ONE, (step[:3],)),
                 (ONE, ONE, (step + step[:1],)), (list(ONE), ONE, (step,)), (ONE, None, (step,)),
                 (((2, 2),), ONE, (step,)), (((True, 1),), ONE, (step,)), (ONE, ONE, (step, None)),
                 (ONE, ONE, (((1,),) * 4,)), (ONE, ONE, (step[:3] + (((Number(1),),),),)),
                 (ONE, ONE, (step[:3] + (((1,),),),)), (ONE, ONE, (step[:3] + ((("01",),),),)),
                 (ONE, ONE, (step[:3] + ([("1",)],),)), (ONE, ONE, (step[:3] + ((["1"],),),)),
                 (ONE, ONE, (step[:3] + (("1",),),)), (ONE, ONE, (step[:3] + ((("1", "0"),),),)),
                 (ONE, ONE, (step[:3] + ((),),)), (ONE, ONE, (step[:3] + ((("2/2",),),),)),
                 (ONE, ONE, (step[:3] + (((None,),),),)), (ONE, ONE, (step, THROUGH[2][0]))]
        for value in wrong:
            self.assertIs(holds(("made by", SUM, value), ((1, -1),)), False, value)
            self.assertIs(holds(("settles", SUM, value), (((1, -1),), ((1,),))), False)
            self.assertIs(holds(("told back", LATE, 1, value), ((1, -1),)), False)
        for claim, certificate in TRUE:
            if claim[0] in ("made by", "settles", "told back"):
                for value in wrong:
                    self.assertIs(holds((*claim[:-1], value), certificate), False, value)

    def test_nothing_is_changed(self):
        claim, certificate = ("alike", JOINED, LATE), [list(row) for row in TRUE[0][1]]
        holds(claim, certificate)
        self.assertEqual(certificate, [list(row) for row in TRUE[0][1]])


if __name__ == "__main__":
    unittest.main()
