import unittest

from delaynets import limits

LIMITS = {
    "MAX_PARTS": 12, "MAX_DEPTH": 5, "MAX_TERMS": 5, "MAX_GAIN": 99, "MAX_STEP": 6,
    "MAX_DEFINITIONS": 12, "MAX_KEPT": 8, "MAX_PERIOD": 6, "MAX_RATE": 12, "MAX_JOINT": 12,
}


class LimitsTest(unittest.TestCase):
    def test_each_constant(self):
        for name, value in LIMITS.items():
            with self.subTest(name):
                self.assertEqual(getattr(limits, name), value)
                self.assertIs(getattr(limits, name).__class__, int)


if __name__ == "__main__":
    unittest.main()
