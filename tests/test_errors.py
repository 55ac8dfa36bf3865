"""Tests of the refusals: the classes of tickoff.errors."""

import unittest

from tickoff import errors

FOUR = ("BadEntry", "BadSpan", "TooMany", "NoMatch")


class ErrorsTest(unittest.TestCase):
    def test_each_class_is_there_and_defined_there(self):
        for name in ("TickError",) + FOUR:
            with self.subTest(name=name):
                found = getattr(errors, name)
                self.assertIsInstance(found, type)
                self.assertEqual(found.__name__, name)
                self.assertEqual(found.__module__, "tickoff.errors")

    def test_tick_error_is_a_value_error(self):
        self.assertEqual(errors.TickError.__bases__, (ValueError,))

    def test_each_of_the_four_is_a_tick_error(self):
        for name in FOUR:
            with self.subTest(name=name):
                self.assertTrue(issubclass(getattr(errors, name), errors.TickError))

    def test_none_of_the_four_is_under_another_one(self):
        for name in FOUR:
            for other in FOUR:
                if name != other:
                    with self.subTest(name=name, other=other):
                        self.assertFalse(issubclass(getattr(errors, name), getattr(errors, other)))

    def test_tick_error_is_none_of_the_four(self):
        for name in FOUR:
            with self.subTest(name=name):
                self.assertFalse(issubclass(errors.TickError, getattr(errors, name)))

    def test_each_is_raised_with_words_and_caught_as_any_refusal(self):
        for name in ("TickError",) + FOUR:
            for caught in (getattr(errors, name), errors.TickError, ValueError):
                with self.subTest(name=name, caught=caught.__name__):
                    with self.assertRaises(caught) as told:
                        raise getattr(errors, name)("some words")
                    self.assertEqual(str(told.exception), "some words")


if __name__ == "__main__":
    unittest.main()
