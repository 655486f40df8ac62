import unittest

from delaynets import errors
from tests.helpers import PromiseTest, number_values, plain_values, signal_values

BASES = {"InputError": ValueError, "NetError": LookupError, "StateError": RuntimeError, "LimitError": ArithmeticError}
KINDS = {
    "InputError": {
        "InvalidName": ("value",), "InvalidText": ("value",), "InvalidStep": ("value",), "InvalidGain": ("value",),
        "InvalidCount": ("value",), "InvalidTime": ("value",), "InvalidRates": ("value",), "NotANumber": ("value",),
        "NotASignal": ("value",), "NotANet": ("value",), "NotAPlayer": ("value",), "InvalidTerms": ("index",),
        "InvalidInputs": ("index",), "InvalidOutputs": ("index",), "InvalidSamples": ("index",),
        "InvalidSteps": ("index",), "InvalidEdit": ("index",),
    },
    "NetError": {
        "NoOutput": (), "UnknownName": ("name",), "NameTaken": ("name",), "TwoRates": ("name",),
        "NoRate": ("name",), "RingWithoutDelay": ("ring",),
    },
    "StateError": {
        "NotComparable": (), "NothingToUndo": (), "Busy": (), "BrokenDemand": ("name", "demand"), "DividedByZero": (),
    },
    "LimitError": {"TooMany": ("limit",), "TooLarge": ("limit",)},
}
ROWS = [(base, name, fields) for base, kinds in KINDS.items() for name, fields in kinds.items()]


def values():
    return plain_values() + number_values() + signal_values() + [0, -1, 12, 10 ** 39]


class ErrorsTest(PromiseTest):
    def test_bases(self):
        for base, above in BASES.items():
            with self.subTest(base):
                self.assertEqual(getattr(errors, base).__bases__, (above,))

    def test_own_class_base_class_and_no_other(self):
        names = list(BASES) + [name for _, name, _ in ROWS]
        for base, name, fields in ROWS:
            error = getattr(errors, name)(*[None for _ in fields])
            for other in names:
                with self.subTest(name, other=other):
                    self.assertIs(isinstance(error, getattr(errors, other)), other in (base, name))

    def test_pythons_class_above(self):
        for base, name, fields in ROWS:
            error = getattr(errors, name)(*[1 for _ in fields])
            for above in BASES.values():
                with self.subTest(name, above=above):
                    self.assertIs(isinstance(error, above), above is BASES[base])

    def test_fields_by_position(self):
        for _, name, fields in ROWS:
            for value in values():
                self.check_fields(getattr(errors, name)(*[value for _ in fields]), {key: value for key in fields})

    def test_fields_by_name(self):
        for _, name, fields in ROWS:
            for value in values():
                given = {key: value for key in fields}
                self.check_fields(getattr(errors, name)(**given), given)

    def test_two_fields(self):
        for demand in values():
            wanted = {"name": "low", "demand": demand}
            self.check_fields(errors.BrokenDemand("low", demand), wanted)
            self.check_fields(errors.BrokenDemand("low", demand=demand), wanted)
            self.check_fields(errors.BrokenDemand(demand=demand, name="low"), wanted)

    def check_fields(self, error, wanted):
        for key, value in wanted.items():
            with self.subTest(error.__class__.__name__, key=key):
                self.same(getattr(error, key), value)

    def test_raised_and_caught_by_the_base_classes(self):
        for base, name, fields in ROWS:
            error = getattr(errors, name)(*["x" for _ in fields])
            for above in (getattr(errors, name), getattr(errors, base), BASES[base]):
                with self.subTest(name, above=above), self.assertRaises(above) as caught:
                    raise error
                self.assertIs(caught.exception, error)

    def test_what_is_kept_is_not_changed(self):
        kept = ["x", [1]]
        self.assertIs(errors.RingWithoutDelay(kept).ring, kept)
        self.assertEqual(kept, ["x", [1]])


if __name__ == "__main__":
    unittest.main()
