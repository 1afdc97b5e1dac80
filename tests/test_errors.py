import unittest

from namecall.errors import CallError, NoLine, NoStep, Outer


class Errors(unittest.TestCase):
    def test_each_refusal_is_a_call_error_and_a_value_error(self):
        for refusal in (CallError, NoStep, Outer, NoLine):
            self.assertTrue(issubclass(refusal, CallError))
            self.assertTrue(issubclass(refusal, ValueError))

    def test_they_are_told_apart(self):
        self.assertEqual(CallError.__bases__, (ValueError,))
        for refusal in (NoStep, Outer, NoLine):
            self.assertEqual(refusal.__bases__, (CallError,))


if __name__ == "__main__":
    unittest.main()
