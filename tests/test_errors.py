import unittest

from lemmaless import errors
from lemmaless.chains import lemma_lines
from lemmaless.claims import alike, holds
from lemmaless.errors import BadChain, BadClaim, BadFormula, LineError, NoLemma
from lemmaless.formulas import parts, truth
from lemmaless.rules import wanted
from lemmaless.search import decided
from lemmaless.taking import step, taken_out
from tests.samples import A

STRAIGHT = (BadFormula, BadClaim, BadChain, NoLemma)


class ErrorsTest(unittest.TestCase):
    def test_line_error_is_a_value_error(self):
        self.assertTrue(issubclass(LineError, ValueError))
        self.assertFalse(issubclass(LineError, STRAIGHT))

    def test_the_others_stand_straight_under_line_error(self):
        for error in STRAIGHT:
            self.assertEqual(error.__bases__, (LineError,), error)

    def test_none_of_them_stands_under_another(self):
        for error in STRAIGHT:
            for other in STRAIGHT:
                self.assertEqual(issubclass(error, other), error is other, (error, other))

    def test_they_are_caught_as_line_errors(self):
        for error in STRAIGHT:
            with self.assertRaises(LineError) as caught:
                raise error("why")
            self.assertIs(caught.exception.__class__, error)
            self.assertEqual(str(caught.exception), "why")

    def test_each_refusal_is_of_the_class_that_is_named(self):
        claim = ([A], [A])
        chain = [(claim, ("same", A), [])]
        for error, refuse in [
            (BadFormula, lambda: parts(("sign", 100))),
            (BadFormula, lambda: truth(("sign", 100), [])),
            (BadClaim, lambda: alike(([A],), claim)),
            (BadClaim, lambda: alike(claim, ([A],))),
            (BadClaim, lambda: holds(([A],), [])),
            (BadClaim, lambda: wanted(([A],), ("same", A))),
            (BadClaim, lambda: wanted(([A],), ("same",))),
            (BadClaim, lambda: decided(([A],))),
            (BadChain, lambda: lemma_lines([])),
            (BadChain, lambda: lemma_lines(chain + [(([A],), ("same", A), [])])),
            (BadChain, lambda: step([])),
            (BadChain, lambda: step(chain + [(([("sign", 100)], [A]), ("same", A), [])])),
            (NoLemma, lambda: step(chain)),
            (BadChain, lambda: taken_out([])),
            (BadChain, lambda: taken_out(chain + [(claim, ("lemma", ("sign", 100)), [0, 0])])),
        ]:
            with self.assertRaises(ValueError) as caught:
                refuse()
            self.assertIsInstance(caught.exception, LineError)
            told = [other for other in STRAIGHT if isinstance(caught.exception, other)]
            self.assertEqual(told, [error])

    def test_they_are_defined_in_their_file(self):
        for error in (LineError, *STRAIGHT):
            self.assertEqual(error.__module__, "lemmaless.errors")
            self.assertIs(getattr(errors, error.__name__), error)


if __name__ == "__main__":
    unittest.main()
