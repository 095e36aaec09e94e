import unittest

from regpress.errors import BadPans, BadProgram, PressError, Stuck

REFUSALS = (BadProgram, BadPans, Stuck)


class TestErrors(unittest.TestCase):
    def test_press_error_is_below_value_error(self):
        self.assertTrue(issubclass(PressError, ValueError))
        self.assertIsNot(PressError, ValueError)

    def test_each_refusal_is_below_press_error(self):
        for refusal in REFUSALS:
            with self.subTest(refusal=refusal.__name__):
                self.assertTrue(issubclass(refusal, PressError))
                self.assertIsNot(refusal, PressError)

    def test_no_refusal_is_below_another(self):
        for lower in REFUSALS:
            for upper in REFUSALS:
                if lower is not upper:
                    with self.subTest(lower=lower.__name__, upper=upper.__name__):
                        self.assertFalse(issubclass(lower, upper))


if __name__ == "__main__":
    unittest.main()
