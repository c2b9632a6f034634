import unittest

from signmill.errors import MillError, NoChain, NoLine, NoStep


class Errors(unittest.TestCase):
    def test_mill_error_stands_right_under_value_error(self):
        self.assertEqual(MillError.__bases__, (ValueError,))

    def test_each_refusal_stands_right_under_mill_error(self):
        for refusal in (NoStep, NoChain, NoLine):
            self.assertEqual(refusal.__bases__, (MillError,))

    def test_refusals_are_told_apart(self):
        for refusal in (NoStep, NoChain, NoLine):
            for other in (NoStep, NoChain, NoLine):
                self.assertEqual(issubclass(refusal, other), refusal is other)


if __name__ == "__main__":
    unittest.main()
