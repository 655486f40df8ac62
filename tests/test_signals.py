import unittest

from delaynets.errors import InvalidCount, InvalidGain, InvalidName, InvalidStep, InvalidTerms, NotASignal, TooMany
from delaynets.numbers import Number
from delaynets.signals import Every, Late, Name, Signal, Spread, Sum, Times, read_signal
from tests.helpers import PromiseTest, number_values, plain_values, signal_values

X, Y, Z = Name("x"), Name("y"), Name("z")
KINDS = {"name": Name, "sum": Sum, "times": Times, "late": Late, "every": Every, "spread": Spread}
NAMES = ["a", "z", "x1", "z9", "a0", "abcdefgh", "a2345678", "zzzzzzzz", "input", "sum", "late", "times", "every",
         "spread", "output", "name", "None", "if"]
GOOD_NAMES = [name for name in NAMES if name != "None"]
WRONG_NAMES = ["", "abcdefghi", "a23456789", "1", "1a", "A", "aB", "a_", "_a", "a b", " a", "a ", "a\n", "\na", "a-b",
               "a.b", "a,b", "(", "a(", "x)", "+", "-a", "None", "a/b", "`a", "a{", "a~", "a:", "0", "9z", "sum(x)"]


def nested(depth):
    """An expression of this depth with as many parts."""
    signal = X
    for _ in range(depth - 1):
        signal = Late(signal, 1)
    return signal


def wide(parts):
    """An expression of this many parts, from 6 to 12, of depth 3."""
    first = min(5, parts - 4)
    return Sum(Sum(*[X for _ in range(first)]), Sum(*[Y for _ in range(parts - 3 - first)]))


def wrapped(signal):
    """Calls that put an expression into a greater one, one part and one depth more."""
    return [lambda: Sum(signal), lambda: Times(2, signal), lambda: Late(signal, 0), lambda: Every(signal, 1),
            lambda: Spread(signal, 1), lambda: -signal, lambda: signal * 3, lambda: signal >> 1,
            lambda: signal // 2, lambda: signal ** 2]


class SignalCase(PromiseTest):
    def check(self, signal, kind, text, names, parts, depth):
        self.assertIs(signal.__class__, kind)
        self.assertIsInstance(signal, Signal)
        for word, other in KINDS.items():
            self.assertIs(isinstance(signal, other), other is kind)
            if other is kind:
                self.assertEqual(signal.WORD, word)
        self.assertEqual(str(signal), text)
        self.assertEqual(repr(signal), f"Signal({text})")
        self.assertEqual(signal.names, names)
        self.assertIs(signal.names.__class__, tuple)
        self.same(signal.parts, parts)
        self.same(signal.depth, depth)


class KindsTest(SignalCase):
    def test_the_example_of_the_document(self):
        x, y = Name("x"), Name("y")
        smooth = (x + (y >> 1)) * Number(1, 2)
        shown = [str(smooth), str((x - y) // 2), str(-(x ** 3)), smooth.names, smooth.parts, smooth.depth,
                 read_signal("late(x, 2)") == x >> 2]
        self.assertEqual(shown, ["times(1/2, sum(x, late(y, 1)))", "every(sum(x, times(-1, y)), 2)",
                                 "times(-1, spread(x, 3))", ("x", "y"), 5, 4, True])

    def test_words(self):
        for word, kind in KINDS.items():
            self.assertEqual(kind.WORD, word)
            self.assertTrue(issubclass(kind, Signal))
            for other in KINDS.values():
                self.assertIs(issubclass(kind, other), kind is other)

    def test_names(self):
        for name in GOOD_NAMES:
            self.check(Name(name), Name, name, (name,), 1, 1)
            self.check(Name(name=name), Name, name, (name,), 1, 1)

    def test_sums(self):
        self.check(Sum(X), Sum, "sum(x)", ("x",), 2, 2)
        self.check(Sum(Y, X), Sum, "sum(y, x)", ("x", "y"), 3, 2)
        self.check(Sum(X, X, X), Sum, "sum(x, x, x)", ("x",), 4, 2)
        self.check(Sum(X, Late(Y, 1), X, X, Z), Sum, "sum(x, late(y, 1), x, x, z)", ("x", "y", "z"), 7, 3)
        self.check(Sum(Sum(X), Sum(Sum(Y))), Sum, "sum(sum(x), sum(sum(y)))", ("x", "y"), 6, 4)

    def test_times(self):
        gains = [(0, "0"), (1, "1"), (-1, "-1"), (99, "99"), (-99, "-99"), (Number(1, 99), "1/99"),
                 (Number(-98, 99), "-98/99"), (Number(99, 98), "99/98"), (Number(198, 2), "99"),
                 (Number(100, 200), "1/2"), (Number(3), "3")]
        for gain, text in gains:
            self.check(Times(gain, X), Times, f"times({text}, x)", ("x",), 2, 2)
            self.check(Times(signal=X, number=gain), Times, f"times({text}, x)", ("x",), 2, 2)
            self.check(X * gain, Times, f"times({text}, x)", ("x",), 2, 2)

    def test_counts(self):
        for count in range(7):
            for signal in (Late(X, count), Late(signal=X, count=count), Late(count=count, signal=X), X >> count):
                self.check(signal, Late, f"late(x, {count})", ("x",), 2, 2)

    def test_steps(self):
        for step in range(1, 7):
            for signal in (Every(X, step), Every(signal=X, step=step), Every(step=step, signal=X), X // step):
                self.check(signal, Every, f"every(x, {step})", ("x",), 2, 2)
            for signal in (Spread(X, step), Spread(signal=X, step=step), Spread(step=step, signal=X), X ** step):
                self.check(signal, Spread, f"spread(x, {step})", ("x",), 2, 2)

    def test_nested_ones(self):
        self.check(Every(Spread(Times(Number(1, 2), Late(X, 3)), 4), 5), Every,
                   "every(spread(times(1/2, late(x, 3)), 4), 5)", ("x",), 5, 5)
        self.check(Sum(Times(-1, Sum(Y, X)), Every(Name("b"), 2)), Sum,
                   "sum(times(-1, sum(y, x)), every(b, 2))", ("b", "x", "y"), 7, 4)

    def test_names_are_ascending_and_come_once(self):
        signal = Sum(Name("b"), Name("a2"), Sum(Name("aa"), Name("a10"), Name("b")), Name("a"), Name("sum"))
        self.assertEqual(signal.names, ("a", "a10", "a2", "aa", "b", "sum"))

    def test_properties_cannot_be_assigned(self):
        for signal in signal_values():
            for name in ("names", "parts", "depth"):
                before = str(signal)
                with self.assertRaises(AttributeError):
                    setattr(signal, name, 5)
                self.assertEqual(str(signal), before)


class OperatorsTest(SignalCase):
    def test_each_operator(self):
        for one in (X, Late(Y, 2), Sum(X, Y)):
            text = str(one)
            for other in (Z, Every(X, 2), Sum(X, Y)):
                self.equal(one + other, Sum(one, other))
                self.equal(one - other, Sum(one, Times(-1, other)))
                self.assertEqual(str(other - one), f"sum({other}, times(-1, {text}))")
            self.equal(-one, Times(-1, one))
            self.equal(one * Number(-2, 3), Times(Number(-2, 3), one))
            self.equal(one * 5, Times(5, one))
            self.equal(one >> 4, Late(one, 4))
            self.equal(one // 3, Every(one, 3))
            self.equal(one ** 3, Spread(one, 3))
            self.assertEqual(str(one), text)

    def test_in_place(self):
        signal = X
        signal += Y
        signal >>= 2
        signal *= 3
        self.assertEqual(str(signal), "times(3, late(sum(x, y), 2))")
        self.assertEqual(str(X), "x")

    def test_no_expression_at_the_right(self):
        for value in plain_values() + number_values() + [0, 1, 5]:
            for signal in signal_values():
                self.fails(NotASignal, lambda: signal + value, value=value)
                self.fails(NotASignal, lambda: signal - value, value=value)

    def test_no_expression_at_the_right_comes_first(self):
        for signal in (wide(12), nested(5)):
            self.fails(NotASignal, lambda: signal + 1, value=1)
            self.fails(NotASignal, lambda: signal - "x", value="x")

    def test_wrong_numbers_at_the_right(self):
        for signal in signal_values():
            for value in plain_values() + signal_values():
                self.fails(InvalidGain, lambda: signal * value, value=value)
                self.fails(InvalidCount, lambda: signal >> value, value=value)
                self.fails(InvalidStep, lambda: signal // value, value=value)
                self.fails(InvalidStep, lambda: signal ** value, value=value)
            self.fails(InvalidGain, lambda: signal * 100, value=100)
            self.fails(InvalidCount, lambda: signal >> 7, value=7)
            self.fails(InvalidCount, lambda: signal >> -1, value=-1)
            for value in (0, 7, -1):
                self.fails(InvalidStep, lambda: signal // value, value=value)
                self.fails(InvalidStep, lambda: signal ** value, value=value)

    def test_limits(self):
        for one, other in ((wide(11), X), (wide(6), wide(6)), (X, wide(11)), (wide(12), nested(5))):
            self.fails(TooMany, lambda: one + other, limit=12)
        for one, other in ((wide(10), X), (wide(9), Late(X, 1)), (wide(6), wide(6)), (X, wide(12)), (X, wide(11))):
            self.fails(TooMany, lambda: one - other, limit=12)
        self.assertEqual((wide(10) + X).parts, 12)
        self.assertEqual((wide(9) - X).parts, 12)
        self.assertEqual((X + nested(4)).depth, 5)
        self.assertEqual((X - nested(3)).depth, 5)
        self.fails(TooMany, lambda: X + nested(5), limit=5)
        self.fails(TooMany, lambda: nested(5) + X, limit=5)
        self.fails(TooMany, lambda: nested(5) - X, limit=5)
        self.fails(TooMany, lambda: X - nested(4), limit=5)
        self.fails(TooMany, lambda: X - nested(5), limit=5)

    def test_the_product_in_a_difference_is_made_first(self):
        self.fails(TooMany, lambda: wide(7) + nested(5), limit=12)
        self.fails(TooMany, lambda: wide(7) - nested(5), limit=5)


class EqualityTest(SignalCase):
    def signals(self):
        return [X, Y, Name("sum"), Sum(X), Sum(X, Y), Sum(Y, X), Sum(X, X), Times(1, X), Times(2, X), Times(-1, X),
                Times(Number(1, 2), X), Late(X, 0), Late(X, 1), Late(Y, 1), Every(X, 1), Every(X, 2), Spread(X, 1),
                Spread(X, 2), Late(Sum(X, Y), 1), Sum(Late(X, 1), Y), Sum(X, Late(Y, 1)), Sum(Sum(X, Y)),
                Sum(Sum(X), Y)]

    def test_equal_if_the_texts_are(self):
        for at, one in enumerate(self.signals()):
            for index, other in enumerate(self.signals()):
                if at == index:
                    self.equal(one, other)
                else:
                    self.unequal(one, other)
        self.equal(Times(Number(2, 4), X), Times(Number(1, 2), X))
        self.equal(Times(Number(3), X), Times(3, X))

    def test_never_equal_to_other_classes(self):
        for signal in self.signals():
            for value in plain_values() + number_values() + [1, str(signal), repr(signal), (signal,)]:
                self.unequal(signal, value)


class ErrorsTest(SignalCase):
    def test_wrong_names(self):
        values = [value for value in plain_values() if value != "x"]
        for value in values + WRONG_NAMES + number_values() + signal_values() + [0, 1]:
            self.fails(InvalidName, lambda: Name(value), value=value)
            self.fails(InvalidName, lambda: Name(name=value), value=value)

    def test_each_sign_of_a_name(self):
        letters = "abcdefghijklmnopqrstuvwxyz"
        for code in [10, *range(32, 127)]:
            sign = chr(code)
            for name, right in ((sign, letters), ("a" + sign, letters + "0123456789"), (sign + "a", letters),
                                ("abcdefg" + sign, letters + "0123456789"), ("abcdefgh" + sign, "")):
                if sign in right:
                    self.assertEqual(str(Name(name)), name)
                else:
                    self.fails(InvalidName, lambda: Name(name), value=name)

    def test_numbers_of_terms(self):
        self.fails(InvalidTerms, lambda: Sum(), index=None)
        self.fails(InvalidTerms, lambda: Sum(X, X, X, X, X, X), index=None)
        self.fails(InvalidTerms, lambda: Sum(1, X, X, X, X, X), index=None)
        self.fails(InvalidTerms, lambda: Sum(*[X for _ in range(13)]), index=None)
        self.assertEqual(str(Sum(X, Y, X, Y, Z)), "sum(x, y, x, y, z)")

    def test_wrong_terms(self):
        for value in plain_values() + number_values() + [0, 1]:
            self.fails(InvalidTerms, lambda: Sum(value), index=0)
            for length in range(1, 6):
                for at in range(length):
                    terms = [X for _ in range(length)]
                    terms[at:] = [value for _ in range(length - at)]
                    self.fails(InvalidTerms, lambda: Sum(*terms), index=at)
        self.fails(InvalidTerms, lambda: Sum((X, Y)), index=0)
        self.fails(InvalidTerms, lambda: Sum(X, [Y], Z), index=1)

    def test_wrong_gains(self):
        beyond = [100, -100, 10 ** 39, Number(100), Number(-100), Number(1, 100), Number(99, 100), Number(100, 99),
                  Number(-100, 99), Number(-1, 100), Number(10 ** 39, 7), Number(200, 2)]
        for value in plain_values() + signal_values() + beyond:
            self.fails(InvalidGain, lambda: Times(value, X), value=value)
            self.fails(InvalidGain, lambda: Times(number=value, signal=X), value=value)
            self.fails(InvalidGain, lambda: Times(value, None), value=value)
            self.fails(InvalidGain, lambda: Times(value, nested(5)), value=value)
            self.fails(InvalidGain, lambda: X * value, value=value)

    def test_wrong_signals(self):
        for value in plain_values() + number_values() + [0, 1, 2]:
            for call in (lambda: Times(1, value), lambda: Late(value, 1), lambda: Every(value, 1),
                         lambda: Spread(value, 1), lambda: Late(value, 7), lambda: Every(value, 0),
                         lambda: Spread(value, None), lambda: Late(value, True), lambda: Times(Number(1), value),
                         lambda: Times(number=1, signal=value), lambda: Late(count=-1, signal=value),
                         lambda: Every(step=True, signal=value), lambda: Spread(step=7, signal=value)):
                self.fails(NotASignal, call, value=value)

    def test_wrong_counts(self):
        for value in plain_values() + number_values() + signal_values() + [-1, 7, 8, -6, 10 ** 39]:
            for signal in (X, nested(5), wide(12)):
                self.fails(InvalidCount, lambda: Late(signal, value), value=value)
                self.fails(InvalidCount, lambda: Late(signal=signal, count=value), value=value)

    def test_wrong_steps(self):
        for value in plain_values() + number_values() + signal_values() + [0, -1, 7, 8, -6, 10 ** 39]:
            for signal in (X, nested(5), wide(12)):
                for kind in (Every, Spread):
                    self.fails(InvalidStep, lambda: kind(signal, value), value=value)
                    self.fails(InvalidStep, lambda: kind(signal=signal, step=value), value=value)

    def test_terms_come_before_limits(self):
        self.fails(InvalidTerms, lambda: Sum(wide(12), 1), index=1)
        self.fails(InvalidTerms, lambda: Sum(nested(5), None), index=1)
        self.fails(InvalidTerms, lambda: Sum(*[wide(12) for _ in range(6)]), index=None)


class LimitsTest(SignalCase):
    def test_the_helpers(self):
        for parts in range(6, 13):
            self.assertEqual((wide(parts).parts, wide(parts).depth), (parts, 3))
        for depth in range(1, 6):
            self.assertEqual((nested(depth).parts, nested(depth).depth), (depth, depth))

    def test_parts(self):
        for call in wrapped(wide(11)):
            self.assertEqual((call().parts, call().depth), (12, 4))
        for call in wrapped(wide(12)):
            self.fails(TooMany, call, limit=12)
        self.assertEqual(Sum(wide(10), X).parts, 12)
        self.fails(TooMany, lambda: Sum(wide(11), X), limit=12)
        self.fails(TooMany, lambda: Sum(wide(12), wide(12), wide(12), wide(12), wide(12)), limit=12)

    def test_depth(self):
        for call in wrapped(nested(4)):
            self.assertEqual((call().parts, call().depth), (5, 5))
        for call in wrapped(nested(5)):
            self.fails(TooMany, call, limit=5)
        self.assertEqual(Sum(X, nested(4), Y).depth, 5)
        self.fails(TooMany, lambda: Sum(X, Y, nested(5)), limit=5)

    def test_both_at_their_greatest(self):
        full = Late(Late(wide(10), 1), 1)
        self.assertEqual((full.parts, full.depth), (12, 5))
        for call in wrapped(full):
            self.fails(TooMany, call, limit=12)
        self.fails(TooMany, lambda: Sum(nested(5), wide(7)), limit=12)
        self.fails(TooMany, lambda: Sum(nested(5), wide(6)), limit=5)

    def test_nothing_that_is_passed_changes(self):
        signals = [wide(12), nested(5), X]
        before = [(str(signal), signal.names, signal.parts, signal.depth) for signal in signals]
        for signal in signals:
            for call in wrapped(signal):
                try:
                    call()
                except TooMany:
                    pass
        self.assertEqual([(str(signal), signal.names, signal.parts, signal.depth) for signal in signals], before)


if __name__ == "__main__":
    unittest.main()
