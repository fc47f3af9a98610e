import unittest

from lemmaless import errors
from lemmaless.errors import BadChain, BadClaim, BadFormula, LineError, NoLemma

STRAIGHT = (BadFormula, BadClaim, BadChain, NoLemma)


class ErrorsTest(unittest.TestCase):
    def test_line_error_is_a_value_error(self):
        self.assertTrue(issubclass(LineError, ValueError))
        self.assertFalse(issubclass(LineError, STRAIGHT))

    def test_the_others_stand_straight_under_line_error(self):
        for error in STRAIGHT:
            self.assertEqual(error.__bases__, (LineError,), error)

    def test_none_of_them_stands_under_another(self):
        for error in STRAIGHT:
            for other in STRAIGHT:
                self.assertEqual(issubclass(error, other), error is other, (error, other))

    def test_they_are_caught_as_line_errors(self):
        for error in STRAIGHT:
            with self.assertRaises(LineError) as caught:
                raise error("why")
            self.assertIs(caught.exception.__class__, error)
            self.assertEqual(str(caught.exception), "why")

    def test_they_are_defined_in_their_file(self):
        for error in (LineError, *STRAIGHT):
            self.assertEqual(error.__module__, "lemmaless.errors")
            self.assertIs(getattr(errors, error.__name__), error)


if __name__ == "__main__":
    unittest.main()
