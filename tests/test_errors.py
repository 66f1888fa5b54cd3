"""The errors, as the interface lists them."""

import unittest

from notetrail.errors import BadText, Refused, TrailError


class Errors(unittest.TestCase):
    def test_trail_error_is_a_value_error(self):
        self.assertTrue(issubclass(TrailError, ValueError))

    def test_refused_keeps_its_text(self):
        error = Refused("too many finds")
        self.assertEqual(error.what, "too many finds")
        self.assertIsInstance(error, TrailError)
        self.assertIsInstance(error, ValueError)
        self.assertNotIsInstance(error, BadText)

    def test_bad_text_keeps_line_and_text_in_this_order(self):
        error = BadText(3, "kinds expected")
        self.assertEqual(error.line, 3)
        self.assertEqual(error.what, "kinds expected")
        self.assertIsInstance(error, TrailError)
        self.assertIsInstance(error, ValueError)
        self.assertNotIsInstance(error, Refused)

    def test_they_can_be_raised_and_caught_as_trail_errors(self):
        for error in (Refused("x"), BadText(1, "x"), TrailError("x")):
            with self.subTest(error=error), self.assertRaises(TrailError):
                raise error

    def test_they_are_made_with_just_these_values(self):
        with self.assertRaises(TypeError):
            Refused()
        with self.assertRaises(TypeError):
            BadText("x")

    def test_attributes_belong_to_each_object(self):
        one, other = Refused("one"), Refused("other")
        self.assertEqual((one.what, other.what), ("one", "other"))


if __name__ == "__main__":
    unittest.main()
