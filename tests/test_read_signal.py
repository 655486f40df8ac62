import unittest
from itertools import product

from delaynets.errors import InvalidText
from delaynets.numbers import Number
from delaynets.signals import Every, Late, Name, Signal, Spread, Sum, Times, read_signal
from tests.helpers import PromiseTest, number_values, plain_values, signal_values
from tests.oracle import expression_in

X, Y = Name("x"), Name("y")
TEXTS = {
    "x": X, "sum": Name("sum"), "late": Name("late"), "a2345678": Name("a2345678"), "input": Name("input"),
    "sum(x)": Sum(X), "sum(x, y)": Sum(X, Y), "sum(y, x, y, x, x)": Sum(Y, X, Y, X, X),
    "times(-99/98, x)": Times(Number(-99, 98), X), "times(0, y)": Times(0, Y), "times(1/99, y)": Times(Number(1, 99), Y),
    "late(x, 0)": Late(X, 0), "late(x, 6)": Late(X, 6), "every(x, 1)": Every(X, 1), "every(y, 6)": Every(Y, 6),
    "spread(x, 1)": Spread(X, 1), "spread(y, 6)": Spread(Y, 6),
    "sum(sum, late(late, 1), every(every, 2), spread(spread, 3), times(4, times))": Sum(
        Name("sum"), Late(Name("late"), 1), Every(Name("every"), 2), Spread(Name("spread"), 3), Times(4, Name("times"))),
    "every(sum(x, times(-1, late(x, 1))), 2)": Every(Sum(X, Times(-1, Late(X, 1))), 2),
    "late(spread(every(times(1/2, y), 3), 4), 5)": Late(Spread(Every(Times(Number(1, 2), Y), 3), 4), 5),
    "sum(sum(x, x, x, x, x), sum(y, y, y, y))": Sum(Sum(X, X, X, X, X), Sum(Y, Y, Y, Y)),
    "spread(sum(x, late(sum(y), 2)), 2)": Spread(Sum(X, Late(Sum(Y), 2)), 2),
}
WRONG = [
    "", " ", "X", "1", "x1234567y", "sum()", "sum(", "sum)", "()", "(x)", "(x", "x)", "sum x", "sum(x,y)", "sum(x , y)",
    "sum(x,  y)", "sum( x)", "sum(x )", "sum (x)", " sum(x)", "sum(x) ", "sum(x)\n", "\nsum(x)", "sum(x, )", "sum(, x)",
    "sum(x, y", "sum(x, y))", "sum((x), y)", "sum(x)(y)", "sum(x), y", "sum(x)sum(y)", "sum(x, x, x, x, x, x)",
    "sum(1)", "sum(x, 1)", "times(x, 2)", "times(x)", "times(2)", "times(2, x, y)", "times(2,x)", "times(2/4, x)",
    "times(+1, x)", "times(-0, x)", "times(01, x)", "times(100, x)", "times(1/100, x)", "times(100/99, x)",
    "times(3/1, x)", "times(1/0, x)", "times(, x)", "times(2, )", "times(2, 3)", "late(x)", "late(x, )", "late(, 1)",
    "late(x, 7)", "late(x, -1)", "late(x, 1/2)", "late(x, 01)", "late(x, +1)", "late(x, -0)", "late(x, 2/1)", "late(1, x)",
    "late(x, 1, 2)", "late(x, y)", "late(x,1)", "late(x, 1 )", "late(1, 1)", "every(x, 0)", "every(x, 7)", "every(x, -1)",
    "every(x)", "every(x, 1/2)", "every(x, 06)", "every(2, x)", "spread(x, 0)", "spread(x, 7)", "spread(x, x)",
    "spread(x, 10)", "Sum(x)", "SUM(x)", "name(x)", "add(x, y)", "xsum(x)", "sumx(x)", "late(late(x, 1)", "late(x, 1))",
    "late(x, 1)x", "xlate(x, 1)", "sum(x y)", "sum(x; y)", "sum[x]", "Name(x)", "Signal(x)", "x + y", "x >> 1",
    "late(late(late(late(late(x, 1), 1), 1), 1), 1)", "sum(sum(x, x, x, x, x), sum(y, y, y, y, y))",
    "every(sum(sum(x, x, x, x, x), sum(y, y, y, y)), 2)", "times(1, sum(sum(sum(sum(x)))))",
    "sum(sum(sum(sum(sum(x)))))", "spread(spread(spread(spread(spread(x, 1), 1), 1), 1), 1)",
    "sum(abcdefghi)", "late(1x, 1)", "sum(sum(x), late(y, 7))", "sum(sum(x), sum())",
]


class ReadSignalTest(PromiseTest):
    def check(self, text):
        wanted = expression_in(text)
        if wanted is None:
            self.fails(InvalidText, lambda: read_signal(text), value=text)
            return
        signal = read_signal(text)
        self.assertIsInstance(signal, Signal)
        self.assertEqual(str(signal), text)
        self.assertEqual((signal.parts, signal.depth, signal.names), wanted)

    def test_the_text_of_every_kind(self):
        for text, signal in TEXTS.items():
            self.assertEqual(str(signal), text)
            for read in (read_signal(text), read_signal(text=text)):
                self.equal(read, signal)
                self.assertIs(read.__class__, signal.__class__)
                self.assertEqual(str(read), text)
                self.assertEqual((read.names, read.parts, read.depth), (signal.names, signal.parts, signal.depth))
            self.check(text)

    def test_what_str_gives(self):
        inner = [X, Name("sum"), Sum(X, Y), Times(Number(-1, 2), X), Late(Y, 3), Every(X, 2), Spread(Y, 2)]
        for one, other in product(inner, inner):
            for signal in (one + other, one - other, -one, other * 7, (one + other) >> 4, one // 3, (other ** 2) ** 3):
                self.equal(read_signal(str(signal)), signal)

    def test_texts_that_are_none(self):
        for text in WRONG:
            self.fails(InvalidText, lambda: read_signal(text), value=text)
            self.fails(InvalidText, lambda: read_signal(text=text), value=text)
            self.assertIsNone(expression_in(text))

    def test_all_texts_of_some_pieces(self):
        pieces = ["x", "sum(", "late(", "times(", ", ", ")", "1", "-1"]
        for length in range(6):
            for chosen in product(pieces, repeat=length):
                self.check("".join(chosen))

    def test_one_sign_put_in_left_out_or_exchanged(self):
        for text in TEXTS:
            for at in range(len(text) + 1):
                self.check(text[:at] + text[at + 1:])
                for sign in " ,()-/0179xsX\n":
                    self.check(text[:at] + sign + text[at:])
                    self.check(text[:at] + sign + text[at + 1:])

    def test_a_stretch_left_out_or_written_twice(self):
        for text in TEXTS:
            for start in range(len(text)):
                for end in range(start + 1, len(text) + 1):
                    self.check(text[:start] + text[end:])
                    self.check(text[:end] + text[start:])

    def test_numbers_at_their_bounds(self):
        for number in [*range(-12, 13), 99, 100, -99, -100]:
            for word in ("late", "every", "spread"):
                self.check(f"{word}(x, {number})")
            self.check(f"times({number}, x)")
            self.check(f"times(1/{number}, x)")
            self.check(f"times({number}/97, x)")
            self.check(f"times(97/{number}, x)")

    def test_limits(self):
        for count in range(1, 8):
            self.check(f"sum({', '.join(['x'] * count)})")
            self.check("late(" * count + "x" + ", 1)" * count)
            self.check("sum(" * count + "x" + ")" * count)
            self.check("times(1/2, " * count + "x" + ")" * count)
            self.check(f"sum({', '.join(['late(x, 1)'] * count)})")
            for more in range(1, 7):
                self.check(f"sum(sum({', '.join(['x'] * count)}), sum({', '.join(['y'] * more)}))")
                self.check(f"every(sum(sum({', '.join(['x'] * count)}), sum({', '.join(['y'] * more)})), 2)")
        for length in range(12):
            self.check("a" * length)
            self.check(f"late({'z' * length}, 2)")

    def test_many_brackets(self):
        for count in (10, 20):
            text = "sum(" * count + "x" + ")" * count
            self.fails(InvalidText, lambda: read_signal(text), value=text)

    def test_long_texts(self):
        for text in ("x" * 4000, "sum(" + ", ".join(["x"] * 1300) + ")", "late(x, " + "1" * 40 + ")",
                     "times(" + "7" * 40 + ", x)", " " * 4000, ")" * 20 + "(" * 20, "," * 4000, "\n" * 400):
            self.fails(InvalidText, lambda: read_signal(text), value=text)

    def test_values_that_are_no_strings(self):
        values = [value for value in plain_values() if not isinstance(value, str)]
        for value in values + number_values() + signal_values() + [0, 1]:
            self.fails(InvalidText, lambda: read_signal(value), value=value)
            self.fails(InvalidText, lambda: read_signal(text=value), value=value)


if __name__ == "__main__":
    unittest.main()
