import math
import random
import unittest
from fractions import Fraction

from delaynets.catalog import halves
from delaynets.errors import InvalidCount, InvalidInputs, InvalidRates, InvalidSteps
from delaynets.machines import Machine
from delaynets.numbers import Number
from tests import deciding
from tests.helpers import PromiseTest, number_values, plain_values, signal_values
from tests.reckoning import fractions
from tests.test_runs import no_nets

ONE = ((1, 1),)
SUM = (((1,),), ((1,),), ((1,),), ((1,),))
LATE = (((0,),), ((1,),), ((1,),), ((0,),))
THROUGH = ((), (), ((),), ((1,),))
# It keeps 2, 1, 0, 1 numbers before its steps.
VARIED = (
    (((1, 0),), ((2,),), ((1, 1),), ((3,),)),
    ((), (), ((5,),), ((Number(-1, 2),),)),
    (((),), ((1,),), ((),), ((0,),)),
    (((1,), (2,)), ((0,), (4,)), ((1,),), ((1,),)),
)


def due(rates, per_unit, tick):
    return [rate for rate in rates if (Fraction(tick, per_unit) * Fraction(*rate)).denominator == 1]


def ticks_in_unit(rates):
    return math.lcm(*[top for top, _ in rates])


def thrown_machine(chance, inputs, outputs, units, sizes=(0, 1, 2, 3)):
    """The steps of a machine with these rates, for so many time units."""
    per_unit = ticks_in_unit(inputs + outputs)
    many = per_unit * units
    kept = [chance.choice(sizes) for _ in range(many)]

    def table(height, width):
        values = (0, 0, 0, 1, -1, 2, Number(1, 2), Number(-2, 3))
        return tuple(tuple(chance.choice(values) for _ in range(width)) for _ in range(height))

    steps = []
    for tick in range(many):
        reads, shown = len(due(inputs, per_unit, tick)), len(due(outputs, per_unit, tick))
        behind = kept[(tick + 1) % many]
        steps.append((table(behind, kept[tick]), table(behind, reads), table(shown, kept[tick]), table(shown, reads)))
    return tuple(steps), tuple(kept)


RATES = [(ONE, ONE), (((1, 1), (1, 1)), ((1, 2),)), (((3, 1),), ((2, 1), (1, 1))), (((2, 3), (1, 2)), ((3, 2),)),
         (((4, 1),), ((6, 1), (1, 3))), (((1, 6),), ((1, 4),)), (((5, 12),), ((1, 1),)), (((12, 1),), ((9, 1),)),
         (((1, 1),) * 6, ((2, 1),) * 6)]


def units_of(inputs, outputs):
    """The least turn."""
    return math.lcm(*[bottom for _, bottom in inputs + outputs])


class MachineTest(PromiseTest):
    def test_properties(self):
        machine = Machine(ONE, ONE, (SUM,))
        self.assertEqual((machine.input_rates, machine.output_rates, machine.turn, machine.sizes), (ONE, ONE, 1, (1,)))
        one = ((Number(1),),)
        self.assertEqual(machine.steps, ((one, one, one, one),))
        self.assertEqual(repr(machine), "Machine(1 steps, at most 1 numbers)")
        varied = Machine(ONE, ONE, VARIED)
        self.assertEqual((varied.turn, varied.sizes), (4, (2, 1, 0, 1)))
        self.assertEqual(repr(varied), "Machine(4 steps, at most 2 numbers)")
        through = Machine(ONE, ONE, (THROUGH,))
        self.assertEqual((through.turn, through.sizes, repr(through)), (1, (0,), "Machine(1 steps, at most 0 numbers)"))
        self.assertEqual(str(through.steps), "(((), (), ((),), ((Number(1),),)),)")

    def test_kinds_of_the_properties(self):
        machine = Machine(ONE, ONE, VARIED)
        for step in machine.steps:
            self.assertIs(step.__class__, tuple)
            self.assertEqual(len(step), 4)
            for table in step:
                self.assertIs(table.__class__, tuple)
                for row in table:
                    self.assertIs(row.__class__, tuple)
                    self.assertTrue(all(number.__class__ is Number for number in row))
        self.assertIs(machine.sizes.__class__, tuple)
        for name in ("input_rates", "output_rates", "steps", "turn", "sizes"):
            with self.assertRaises(AttributeError):
                setattr(machine, name, 1)

    def test_rates_and_turns(self):
        chance = random.Random(101)
        for inputs, outputs in RATES:
            for times in (1, 2, 3):
                units = units_of(inputs, outputs) * times
                steps, kept = thrown_machine(chance, inputs, outputs, units)
                machine = Machine(inputs, outputs, steps)
                self.assertEqual((machine.turn, machine.sizes), (units, kept))
                self.assertEqual((machine.input_rates, machine.output_rates), (inputs, outputs))
                self.assertEqual(repr(machine), f"Machine({len(steps)} steps, at most {max(kept)} numbers)")
                for step, given in zip(machine.steps, steps):
                    self.assertEqual([fractions(table) for table in step],
                                     [tuple(tuple(Fraction(str(n)) for n in row) for row in table) for table in given])

    def test_equality(self):
        chance = random.Random(102)
        steps, _ = thrown_machine(chance, ((2, 1),), ONE, 1)
        machine = Machine(((2, 1),), ONE, steps)
        self.equal(machine, Machine(((2, 1),), ONE, steps))
        self.equal(Machine(ONE, ONE, (SUM,)), Machine(ONE, ONE, (tuple(((Number(2, 2),),) for _ in SUM),)))
        self.unequal(Machine(ONE, ONE, (SUM,)), Machine(ONE, ONE, (SUM, SUM)))
        self.unequal(Machine(ONE, ONE, (SUM,)), Machine(ONE, ONE, (LATE,)))
        for at in range(4):
            changed = [((2,),) if place == at else table for place, table in enumerate(SUM)]
            self.unequal(Machine(ONE, ONE, (SUM,)), Machine(ONE, ONE, (tuple(changed),)))
        # Only the rates tell these two apart.
        idle = ((), (), (), ())
        read = ((), (), ((),), ((0,),))
        one = Machine(((1, 2), (1, 2)), ((1, 2),), (((), (), ((),), ((0, 0),)), idle))
        other = Machine(((1, 2), (1, 1)), ((1, 2),), (((), (), ((),), ((0, 0),)), idle))
        self.unequal(one, other)
        self.unequal(Machine(ONE, ((1, 1),), (read, read)), Machine(ONE, ((1, 2),), (read, idle)))
        for value in [*plain_values(), *no_nets(), machine.steps, repr(machine), halves()]:
            self.unequal(machine, value)

    def test_by_name(self):
        machine = Machine(steps=(SUM,), output_rates=ONE, input_rates=ONE)
        self.equal(machine, Machine(ONE, ONE, (SUM,)))

    def test_what_is_passed_is_not_changed(self):
        steps, _ = thrown_machine(random.Random(103), ONE, ONE, 3)
        before = str(steps)
        Machine(ONE, ONE, steps).run(4, (1, 2, 3, 4))
        self.assertEqual(str(steps), before)


class WrongMachineTest(PromiseTest):
    def test_wrong_rates(self):
        wrong = [*plain_values(), *number_values(), *signal_values(), 0, 1, halves(), ((1, 1), 1), ((1, 1, 1),), ((1,),),
                 ([1, 1],), [(1, 1)], ((1, 1),) * 7, ((2, 2),), ((0, 1),), ((1, 0),), ((-1, 1),), ((-1, -1),), ((1, 13),),
                 ((13, 1),), ((True, 1),), ((1, True),), ((Number(1), 1),), (("1", "1"),), ((4, 6),), ((1, 1), (12, 9)),
                 ((1, 1), (3, 3)), (1, 1), ((10 ** 39, 1),), ((1, 1), None)]
        for value in wrong:
            self.fails(InvalidRates, lambda: Machine(value, ONE, (SUM,)), value=value)
            self.fails(InvalidRates, lambda: Machine(ONE, value, (SUM,)), value=value)
            self.fails(InvalidRates, lambda: Machine(value, None, None), value=value)
            self.fails(InvalidRates, lambda: Machine(ONE, value, None), value=value)

    def test_rates_at_their_bounds(self):
        idle = ((), (), ((),), ((0,),))
        late = ((), (), (), ((),))
        self.assertEqual(Machine(((1, 12),), ((1, 12),), (idle,) + (((), (), (), ()),) * 11).turn, 12)
        self.assertEqual(Machine(((12, 1),), ((12, 1),), (idle,) * 12).turn, 1)
        self.assertEqual(Machine(((11, 12),), ((11, 12),), ((idle,) + (((), (), (), ()),) * 11) * 11).turn, 12)
        self.assertEqual(len(Machine(((1, 1),) * 6, ((1, 1),) * 6, (((), (), ((),) * 6, ((0,) * 6,) * 6),)).steps), 1)
        self.fails(InvalidSteps, lambda: Machine(((12, 1),), ((12, 1),), (late,) * 12), index=0)

    def test_no_tuple_or_a_wrong_number_of_steps(self):
        for value in [*plain_values(), *number_values(), *signal_values(), 0, 1, [SUM], SUM[0][0][0]]:
            if not isinstance(value, tuple):
                self.fails(InvalidSteps, lambda: Machine(ONE, ONE, value), index=None)
        self.fails(InvalidSteps, lambda: Machine(ONE, ONE, ()), index=None)
        for inputs, outputs in RATES:
            shortest = units_of(inputs, outputs) * ticks_in_unit(inputs + outputs)
            for many in {0, 1, 2, 3, 5, shortest - 1, shortest + 1, 2 * shortest - 1, shortest // 2}:
                if many % shortest or many == 0:
                    self.fails(InvalidSteps, lambda: Machine(inputs, outputs, (None,) * many), index=None)
            self.fails(InvalidSteps, lambda: Machine(inputs, outputs, (None,) * shortest), index=0)
            self.fails(InvalidSteps, lambda: Machine(inputs, outputs, (None,) * shortest * 2), index=0)

    def test_steps_of_another_form(self):
        one = ((1,),)
        wrong = [*plain_values(), *number_values(), *signal_values(), 0, 1, halves(), list(SUM), SUM[:3], (*SUM, one),
                 ([[1]], one, one, one), (one, ([1],), one, one), (one, one, [(1,)], one), (one, one, one, ((True,),)),
                 (one, one, ((False,),), one), ((1,), one, one, one), (one, 1, one, one), (one, one, (1,), one),
                 (one, one, one, ((None,),)), (one, one, one, (("1",),)), (((one,),), one, one, one), (one, one, one, None),
                 (one, one, one, "1")]
        for value in wrong:
            self.fails(InvalidSteps, lambda: Machine(ONE, ONE, (value,)), index=0)
            self.fails(InvalidSteps, lambda: Machine(ONE, ONE, (SUM, value, SUM, value)), index=1)
            # The form of all steps is looked at before the first one that does not fit.
            self.fails(InvalidSteps, lambda: Machine(ONE, ONE, (THROUGH, SUM, value)), index=2)

    def test_tables_that_do_not_fit(self):
        one = ((1,),)
        wrong = [
            (((1, 1),), one, one, one), (((),), one, one, one), (one, ((1, 1),), one, one), (one, ((),), one, one),
            (one, (), one, one), (one, ((1,), (1,)), one, one), (one, one, ((1, 1),), one), (one, one, ((),), one),
            (one, one, (), one), (one, one, ((1,), (1,)), one), (one, one, one, ((1, 1),)), (one, one, one, ((),)),
            (one, one, one, ()), (one, one, one, ((1,), (1,))),
        ]
        for step in wrong:
            self.fails(InvalidSteps, lambda: Machine(ONE, ONE, (step,)), index=0)
            self.fails(InvalidSteps, lambda: Machine(ONE, ONE, (SUM, SUM, step, SUM, step)), index=2)
        # What a step keeps must be what the next one has.
        self.fails(InvalidSteps, lambda: Machine(ONE, ONE, (SUM, (((1,), (1,)), ((1,), (1,)), one, one), SUM)), index=2)
        self.fails(InvalidSteps, lambda: Machine(ONE, ONE, (SUM, (((1,), (1,)), ((1,), (1,)), one, one))), index=0)
        self.fails(InvalidSteps, lambda: Machine(ONE, ONE, (SUM, ((), (), one, one), SUM)), index=2)
        ragged = (((1, 0), (1,)), ((0,), (0,)), ((1, 1),), one)
        self.fails(InvalidSteps, lambda: Machine(ONE, ONE, (ragged,)), index=0)
        self.fails(InvalidSteps, lambda: Machine(ONE, ONE, (SUM, ragged, None)), index=2)

    def test_what_is_read_and_written(self):
        reads = ((), (), ((),), ((1,),))
        idle = ((), (), (), ())
        shown = ((), (), ((),), ((),))
        taken = ((), (), (), ())
        machine = Machine(((1, 2),), ONE, (reads, shown))
        self.assertEqual(str(machine.run(4, (5, 6))), "((Number(5), Number(0), Number(6), Number(0)),)")
        self.fails(InvalidSteps, lambda: Machine(((1, 2),), ONE, (reads, reads)), index=1)
        self.fails(InvalidSteps, lambda: Machine(((1, 2),), ONE, (shown, reads)), index=0)
        self.fails(InvalidSteps, lambda: Machine(((1, 2),), ONE, (reads, idle)), index=1)
        self.fails(InvalidSteps, lambda: Machine(((2, 1),), ONE, (reads, shown)), index=1)
        self.assertEqual(Machine(((2, 1),), ONE, (reads, taken)).turn, 1)
        keeps = (((1,),), ((),), (), ())
        self.fails(InvalidSteps, lambda: Machine(((2, 1),), ONE, ((((1,),), ((1,),), ((1,),), ((1,),)), keeps)), index=1)

    def test_steps_without_rows_or_columns(self):
        none = ((), (), ((),), ((2,),))
        self.assertEqual(Machine(ONE, ONE, (none,)).sizes, (0,))
        for step in (((), ((),), ((),), ((2,),)), (((),), (), ((),), ((2,),)), ((), (), (), ((2,),)),
                     ((), (), ((),), ()), ((), (), ((),), ((),)), ((), (), ((1,),), ((2,),))):
            self.fails(InvalidSteps, lambda: Machine(ONE, ONE, (none, step, none)), index=1)


class RunTest(PromiseTest):
    def samples(self, chance, machine, until):
        return [tuple(chance.choice((0, 1, -2, 5, Number(1, 3), 10 ** 12)) for _ in range(self.count(rate, until)))
                for rate in machine.input_rates]

    def count(self, rate, until):
        return math.ceil(Fraction(*rate) * until)

    def check(self, machine, until, rows):
        got = machine.run(until, *rows)
        self.assertIs(got.__class__, tuple)
        self.assertEqual(len(got), len(machine.output_rates))
        for row, rate in zip(got, machine.output_rates):
            self.assertIs(row.__class__, tuple)
            self.assertEqual(len(row), self.count(rate, until))
            self.assertTrue(all(number.__class__ is Number for number in row))
        exact = [[Fraction(str(number)) for number in row] for row in rows]
        self.assertEqual([list(row) for row in fractions(got)], deciding.walk(machine, until, exact)[0])
        return got

    def test_against_a_walk_through_the_ticks(self):
        chance = random.Random(104)
        for inputs, outputs in RATES:
            for times in (1, 2):
                steps, _ = thrown_machine(chance, inputs, outputs, units_of(inputs, outputs) * times)
                machine = Machine(inputs, outputs, steps)
                for until in (0, 1, 2, 3, 5, 13, 2 * machine.turn + 1):
                    rows = self.samples(chance, machine, until)
                    got = self.check(machine, until, rows)
                    shorter = chance.randint(0, until)
                    begun = machine.run(shorter, *[row[:self.count(rate, shorter)] for row, rate in zip(rows, inputs)])
                    self.assertEqual(begun, tuple(row[:self.count(rate, shorter)] for row, rate in zip(got, outputs)))

    def test_steps_given_twice(self):
        chance = random.Random(105)
        for inputs, outputs in RATES:
            steps, kept = thrown_machine(chance, inputs, outputs, units_of(inputs, outputs))
            once, twice = Machine(inputs, outputs, steps), Machine(inputs, outputs, steps + steps)
            self.assertEqual((twice.turn, twice.sizes), (2 * once.turn, kept + kept))
            rows = self.samples(chance, once, 3 * once.turn)
            self.assertEqual(once.run(3 * once.turn, *rows), twice.run(3 * once.turn, *rows))

    def test_by_hand(self):
        self.assertEqual(str(Machine(ONE, ONE, (SUM,)).run(3, (1, 2, Number(1, 2)))),
                         "((Number(1), Number(3), Number(7/2)),)")
        self.assertEqual(str(Machine(ONE, ONE, (LATE,)).run(3, (4, 5, 6))), "((Number(0), Number(4), Number(5)),)")
        got = Machine(ONE, ONE, VARIED).run(6, (1, 2, 3, 4, 5, 6))
        # 3; 5*2 - 1; 0; kept 3, 3+4; kept (3, 6+16), 25+15; kept 3+10, 65-3
        self.assertEqual(str(got[0]), "(Number(3), Number(9), Number(0), Number(7), Number(40), Number(62))")
        self.assertEqual(str(Machine(ONE, ONE, (SUM,)).run(0, ())), "((),)")

    def test_wrong_times(self):
        machine = Machine(ONE, ONE, (SUM,))
        for value in [*plain_values(), *number_values(), *signal_values(), -1, -10 ** 39]:
            self.fails(InvalidCount, lambda: machine.run(value, ()), value=value)
            self.fails(InvalidCount, lambda: machine.run(value), value=value)
            self.fails(InvalidCount, lambda: machine.run(value, 5, 6), value=value)
            self.fails(InvalidCount, lambda: machine.run(until=value), value=value)

    def test_wrong_inputs(self):
        steps, _ = thrown_machine(random.Random(106), ((1, 1), (3, 2)), ONE, 2)
        machine = Machine(((1, 1), (3, 2)), ONE, steps)
        self.fails(InvalidInputs, lambda: machine.run(2), index=None)
        self.fails(InvalidInputs, lambda: machine.run(until=2), index=None)
        self.fails(InvalidInputs, lambda: machine.run(2, (1, 1)), index=None)
        self.fails(InvalidInputs, lambda: machine.run(2, (1, 1), (1, 1, 1), (1, 1)), index=None)
        for value in [*plain_values(), *number_values(), *signal_values(), 0, 5, [1, 1], (1,), (1, 1, 1), (True, 1),
                      (1, None), ("1", "2"), ((1,), (1,)), ()]:
            self.fails(InvalidInputs, lambda: machine.run(2, value, (1, 1, 1)), index=0)
            self.fails(InvalidInputs, lambda: machine.run(2, value, value), index=0)
        for value in ((1, 1), (1, 1, 1, 1), [1, 1, 1], (1, False, 1), (1, 1, "1"), None, ()):
            self.fails(InvalidInputs, lambda: machine.run(2, (1, 1), value), index=1)
        self.fails(InvalidInputs, lambda: machine.run(10 ** 39, (1, 1), (1, 1, 1)), index=0)
        self.assertEqual(len(machine.run(3, (1, 1, 1), (1, 1, 1, 1, 1))[0]), 3)
        self.fails(InvalidInputs, lambda: machine.run(3, (1, 1, 1), (1, 1, 1, 1)), index=1)
        self.assertEqual(machine.run(0, (), ()), ((),))


if __name__ == "__main__":
    unittest.main()
