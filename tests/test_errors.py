"""The errors of the interface."""

import unittest

from surfacehall import errors
from tests.helpers import REFUSALS


class Errors(unittest.TestCase):
    def test_a_hall_error_is_a_value_error(self):
        self.assertEqual(errors.HallError.__bases__, (ValueError,))

    def test_each_refusal_is_a_hall_error_and_none_of_the_others(self):
        for word in REFUSALS:
            self.assertEqual(getattr(errors, word).__bases__, (errors.HallError,), word)

    def test_they_are_defined_in_their_file(self):
        for word in REFUSALS + ("HallError",):
            self.assertEqual(getattr(errors, word).__module__, "surfacehall.errors")

    def test_a_bad_text_has_its_line(self):
        for line in (0, 7):
            error = errors.BadText(line)
            self.assertEqual(error.line, line)
            self.assertIsInstance(error, errors.HallError)

    def test_a_message_tells_something(self):
        self.assertIn("3", str(errors.BadText(3)))
