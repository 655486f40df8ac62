import unittest
from fractions import Fraction
from itertools import product

from delaynets.errors import InvalidText
from delaynets.numbers import Number
from tests.helpers import PromiseTest, number_values, plain_values, signal_values
from tests.oracle import number_in

TEXTS = ["0", "1", "-1", "9", "10", "100", "-99", "1/2", "-3/4", "7/10", "10/3", "-101/100", "99/98", "1/99",
         "9" * 40, "-" + "8" * 40, "1" + "0" * 39 + "/" + "9" * 40]
WRONG = ["", "-", "/", "-0", "+1", "--1", "00", "01", "-01", "1/1", "2/4", "0/1", "0/2", "4/2", "-0/3", "1/0", "0/0",
         "1/-2", "-1/-2", "1/+2", "1/02", "01/2", "1/", "/2", "-/2", "1//2", "1/2/3", " 1", "1 ", "1\n", "\n1", "1/ 2",
         "1 /2", "1_0", "1,0", "1.0", "1e3", "0x1", "a", "1a", "one", "1/2a", "- 1", "1-", "(1)", "Number(1)",
         "2/2", "6/3", "1/00", "0" * 50, "-1/1", "100/10"]


class ReadTest(PromiseTest):
    def check(self, text):
        fraction = number_in(text)
        if fraction is None:
            self.fails(InvalidText, lambda: Number.read(text), value=text)
            return
        number = Number.read(text)
        self.assertIs(number.__class__, Number)
        self.assertEqual((number.top, number.bottom), (fraction.numerator, fraction.denominator))
        self.assertEqual(str(number), text)

    def test_the_very_text(self):
        for text in TEXTS:
            self.check(text)
            self.equal(Number.read(text), Number(*Fraction(text).as_integer_ratio()))
            self.assertEqual(str(Number.read(text=text)), text)

    def test_what_str_gives(self):
        for top in range(-30, 31):
            for bottom in range(1, 13):
                number = Number(top, bottom)
                self.equal(Number.read(str(number)), number)

    def test_texts_that_are_nearly_one(self):
        for text in WRONG:
            self.fails(InvalidText, lambda: Number.read(text), value=text)
            self.fails(InvalidText, lambda: Number.read(text=text), value=text)

    def test_all_short_texts(self):
        for length in range(6):
            for signs in product("-/0124 ", repeat=length):
                self.check("".join(signs))

    def test_one_sign_put_in_left_out_or_exchanged(self):
        for text in TEXTS:
            for at in range(len(text) + 1):
                self.check(text[:at] + text[at + 1:])
                for sign in "-+/0159 \n.,_ax":
                    self.check(text[:at] + sign + text[at:])
                    self.check(text[:at] + sign + text[at + 1:])

    def test_values_that_are_no_strings(self):
        values = [value for value in plain_values() if not isinstance(value, str)]
        for value in values + signal_values() + number_values() + [0, 1, 12]:
            self.fails(InvalidText, lambda: Number.read(value), value=value)

    def test_off_an_object(self):
        self.equal(Number(5).read("-3/4"), Number(-3, 4))


if __name__ == "__main__":
    unittest.main()
