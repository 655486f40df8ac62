import operator
import unittest
from fractions import Fraction
from math import gcd

from delaynets.errors import DividedByZero, InvalidCount, NotANumber
from delaynets.numbers import Number
from tests.helpers import PromiseTest, number_values, plain_values, signal_values

HUGE = 10 ** 40 - 1
LARGE = 1234567890123456789012345678901234567890
TOPS = [0, 1, -1, 2, -2, 3, 4, -6, 9, 10, -12, 35, 99, LARGE, -LARGE, HUGE]
BOTTOMS = [1, 2, 3, -1, -2, 4, -6, 7, 9, 10, 12, 100, LARGE, -HUGE]
SIGNS = [operator.add, operator.sub, operator.mul]


def pairs():
    """Pairs of a Number and the Fraction that it has to be."""
    return [(Number(top, bottom), Fraction(top, bottom)) for top in TOPS for bottom in BOTTOMS]


def few_pairs():
    return [(Number(top, bottom), Fraction(top, bottom)) for top in (0, 1, -1, 2, -7, 12, HUGE) for bottom in (1, 2, -9)]


class NumberCase(PromiseTest):
    def check(self, number, fraction):
        self.assertIs(number.__class__, Number)
        self.same(number.top, fraction.numerator)
        self.same(number.bottom, fraction.denominator)
        self.same(number.sign, (fraction > 0) - (fraction < 0))
        self.assertEqual(str(number), str(fraction))
        self.assertEqual(repr(number), f"Number({fraction})")


class CreationTest(NumberCase):
    def test_the_example_of_the_document(self):
        half = Number(2, 4)
        shown = [str(half), str(1 - half * 3), str(2 * half), str(abs(-half) + 1), half.over(3).bottom,
                 Number.read("-3/4").top, (half - half).sign, Number(3) == 3, repr(half ** 3)]
        self.assertEqual(shown, ["1/2", "-1/2", "1", "3/2", 6, -3, 0, False, "Number(1/8)"])

    def test_lowest_terms(self):
        for number, fraction in pairs():
            self.check(number, fraction)
            self.assertEqual(gcd(number.top, number.bottom), 1)

    def test_known_values(self):
        rows = [((6, 4), 3, 2), ((-6, 4), -3, 2), ((6, -4), -3, 2), ((-6, -4), 3, 2), ((0, -5), 0, 1), ((7, 7), 1, 1)]
        for given, top, bottom in rows:
            number = Number(*given)
            self.assertEqual((number.top, number.bottom), (top, bottom))

    def test_bottom_left_out_and_names(self):
        for top in TOPS:
            self.check(Number(top), Fraction(top))
            self.check(Number(top=top), Fraction(top))
            self.check(Number(top, bottom=6), Fraction(top, 6))
            self.check(Number(bottom=-6, top=top), Fraction(top, -6))

    def test_wrong_top(self):
        for value in plain_values() + signal_values() + number_values():
            for bottom in (1, 0, 2, True, None):
                self.fails(InvalidCount, lambda: Number(value, bottom), value=value)
            self.fails(InvalidCount, lambda: Number(value), value=value)
            self.fails(InvalidCount, lambda: Number(top=value, bottom=value), value=value)

    def test_wrong_bottom(self):
        for value in plain_values() + signal_values() + number_values():
            for top in (0, 1, -5, HUGE):
                self.fails(InvalidCount, lambda: Number(top, value), value=value)
                self.fails(InvalidCount, lambda: Number(bottom=value, top=top), value=value)

    def test_bottom_zero(self):
        for top in TOPS:
            self.fails(DividedByZero, lambda: Number(top, 0))
            self.fails(DividedByZero, lambda: Number(top, bottom=0))

    def test_properties_cannot_be_assigned(self):
        number = Number(3, 4)
        for name in ("top", "bottom", "sign"):
            with self.assertRaises(AttributeError):
                setattr(number, name, 5)
        self.check(number, Fraction(3, 4))


class EqualityTest(NumberCase):
    def test_equal_if_the_texts_are(self):
        for one, left in few_pairs():
            for other, right in few_pairs():
                if left == right:
                    self.equal(one, other)
                else:
                    self.unequal(one, other)

    def test_lowest_terms_count(self):
        self.equal(Number(1, 2), Number(2, 4))
        self.equal(Number(-1, 2), Number(1, -2))
        self.equal(Number(0, 5), Number(0))
        self.unequal(Number(1, 2), Number(1, 3))
        self.unequal(Number(1, 2), Number(3, 2))
        self.unequal(Number(1, 2), Number(-1, 2))
        self.unequal(Number(2), Number(1, 2))

    def test_never_equal_to_other_classes(self):
        for number in (Number(0), Number(1), Number(3), Number(1, 2)):
            for value in plain_values() + signal_values() + [0, 1, 3, Fraction(1, 2), str(number), (1, 2)]:
                self.unequal(number, value)

    def test_repr_and_str_are_strings(self):
        self.assertEqual(repr(Number(-3, 4)), "Number(-3/4)")
        self.assertEqual(repr(Number(0, 4)), "Number(0)")
        self.assertEqual(str(Number(-8, 4)), "-2")


class ArithmeticTest(NumberCase):
    def test_two_numbers(self):
        for one, left in few_pairs():
            for other, right in few_pairs():
                for sign in SIGNS:
                    self.check(sign(one, other), sign(left, right))
                self.check(one, left)
                self.check(other, right)

    def test_many_fractions(self):
        for one, left in pairs():
            for sign in SIGNS:
                self.check(sign(one, Number(-5, 6)), sign(left, Fraction(-5, 6)))
                self.check(sign(Number(-5, 6), one), sign(Fraction(-5, 6), left))

    def test_an_integer_on_either_side(self):
        for number, fraction in few_pairs():
            for integer in (0, 1, -1, 5, -12, HUGE):
                for sign in SIGNS:
                    self.check(sign(number, integer), sign(fraction, integer))
                    self.check(sign(integer, number), sign(integer, fraction))
                self.check(number, fraction)

    def test_wrong_operands(self):
        for value in plain_values():
            for sign in SIGNS:
                for number in (Number(0), Number(1, 2)):
                    self.fails(NotANumber, lambda: sign(number, value), value=value)
                    self.fails(NotANumber, lambda: sign(value, number), value=value)

    def test_an_expression_as_right_operand(self):
        for value in signal_values():
            for sign in SIGNS:
                self.fails(NotANumber, lambda: sign(Number(1, 2), value), value=value)

    def test_negative_and_absolute(self):
        for number, fraction in pairs():
            self.check(-number, -fraction)
            self.check(abs(number), abs(fraction))
            self.check(number, fraction)

    def test_total_in_a_loop(self):
        for total in (0, Number(0)):
            wanted = Fraction(0)
            for bottom in range(1, 12):
                before = total
                kept = str(before)
                total += Number(1, bottom)
                wanted += Fraction(1, bottom)
                self.check(total, wanted)
                self.assertEqual(str(before), kept)
        total = Number(1, 2)
        total += 3
        total -= 1
        total *= 2
        self.check(total, Fraction(5))

    def test_sum_of_a_list(self):
        self.check(sum([Number(1, 2), Number(1, 3), 1]), Fraction(11, 6))

    def test_wrong_operand_of_total(self):
        for value in plain_values():
            self.fails(NotANumber, lambda: self.add_to(Number(1), value), value=value)

    def add_to(self, total, value):
        total += value
        return total


class PowerTest(NumberCase):
    def test_powers(self):
        for number, fraction in [(Number(top, bottom), Fraction(top, bottom)) for top in (-3, -1, 0, 1, 2, LARGE)
                                 for bottom in (1, 2, -5)]:
            for count in range(21):
                self.check(number ** count, fraction ** count)
            self.check(number, fraction)

    def test_power_zero_is_one(self):
        self.check(Number(0) ** 0, Fraction(1))
        self.check(Number(-7, 3) ** 0, Fraction(1))

    def test_wrong_exponents(self):
        for value in plain_values() + signal_values() + number_values() + [-1, 21, 22, -20, HUGE]:
            self.fails(InvalidCount, lambda: Number(1, 2) ** value, value=value)
            self.fails(InvalidCount, lambda: Number(0) ** value, value=value)


class QuotientTest(NumberCase):
    def test_quotients(self):
        for one, left in few_pairs():
            for other, right in few_pairs():
                if right != 0:
                    self.check(one.over(other), left / right)
                    self.check(one.over(other=other), left / right)
                self.check(one, left)
                self.check(other, right)

    def test_by_integers(self):
        for number, fraction in few_pairs():
            for integer in (1, -1, 3, -12, HUGE):
                self.check(number.over(integer), fraction / integer)

    def test_by_zero(self):
        for zero in (0, Number(0), Number(0, -3)):
            for number in (Number(0), Number(1), Number(-1, 2)):
                self.fails(DividedByZero, lambda: number.over(zero))
                self.fails(DividedByZero, lambda: number.over(other=zero))

    def test_by_no_number(self):
        for value in plain_values() + signal_values():
            self.fails(NotANumber, lambda: Number(1, 2).over(value), value=value)
            self.fails(NotANumber, lambda: Number(0).over(other=value), value=value)


if __name__ == "__main__":
    unittest.main()
