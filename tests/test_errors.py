import unittest

from anyspan import errors
from anyspan.errors import (
    Breaks, Full, NoneLeft, NoNumber, NoPart, NoPlace, NoRow, NoRules, NoTold, SpanError,
)

TEXT_ERRORS = [NoRules, NoRow, NoTold, NoPart, NoNumber, NoPlace, Full, NoneLeft]
ALL_ERRORS = TEXT_ERRORS + [Breaks]


class Errors(unittest.TestCase):
    def test_span_error_stands_under_value_error(self):
        self.assertTrue(issubclass(SpanError, ValueError))
        self.assertEqual(SpanError.__bases__, (ValueError,))
        self.assertEqual(str(SpanError("why")), "why")

    def test_each_stands_under_span_error(self):
        for error in ALL_ERRORS:
            with self.subTest(error.__name__):
                self.assertTrue(issubclass(error, SpanError))

    def test_none_stands_under_another(self):
        for one in ALL_ERRORS:
            for other in ALL_ERRORS:
                if one is not other:
                    self.assertFalse(issubclass(one, other), (one, other))
            self.assertFalse(issubclass(SpanError, one))

    def test_made_of_a_text(self):
        for error in TEXT_ERRORS:
            with self.subTest(error.__name__):
                self.assertEqual(str(error("some words")), "some words")
                with self.assertRaises(SpanError):
                    raise error("some words")

    def test_breaks_has_its_rule(self):
        self.assertEqual(Breaks((3, 1, 2)).rule, (3, 1, 2))
        self.assertEqual(Breaks((1, 0, 0)).rule, (1, 0, 0))
        with self.assertRaises(SpanError) as caught:
            raise Breaks((8, 0, 7))
        self.assertEqual(caught.exception.rule, (8, 0, 7))
        self.assertIsInstance(str(caught.exception), str)

    def test_all_are_defined_here(self):
        for error in ALL_ERRORS + [SpanError]:
            self.assertEqual(error.__module__, "anyspan.errors")
            self.assertIs(getattr(errors, error.__name__), error)


if __name__ == "__main__":
    unittest.main()
