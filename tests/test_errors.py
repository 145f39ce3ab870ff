"""The section "Errors"."""

import unittest

from layerwharf import errors
from layerwharf.errors import Malformed, Misused, Refused


class ErrorsTest(unittest.TestCase):
    def test_refused_is_a_subclass_of_value_error(self):
        self.assertTrue(issubclass(Refused, ValueError))
        self.assertIsNot(Refused, ValueError)

    def test_the_others_are_direct_subclasses_of_refused(self):
        self.assertEqual(Malformed.__bases__, (Refused,))
        self.assertEqual(Misused.__bases__, (Refused,))

    def test_malformed_has_the_one_field_line(self):
        for line in (0, 1, 51, 10 ** 20):
            self.assertEqual(vars(Malformed(line)), {"line": line})
        self.assertEqual(Malformed(line=7).line, 7)

    def test_misused_has_the_one_field_word(self):
        for word in ("", "shout", "100%", "{x}"):
            self.assertEqual(vars(Misused(word)), {"word": word})
        self.assertEqual(Misused(word="shout").word, "shout")

    def test_the_only_argument_is_needed_and_no_other_is_taken(self):
        for error in (Malformed, Misused):
            self.assertRaises(TypeError, error)
            self.assertRaises(TypeError, error, 1, 2)

    def test_each_is_caught_as_refused_and_as_value_error(self):
        for error in (Malformed(3), Misused("shout")):
            for caught in (type(error), Refused, ValueError):
                with self.assertRaises(caught) as context:
                    raise error
                self.assertIs(context.exception, error)

    def test_one_is_not_caught_as_the_other(self):
        self.assertNotIsInstance(Malformed(3), Misused)
        self.assertNotIsInstance(Misused("shout"), Malformed)

    def test_they_are_defined_in_the_file_that_the_interface_names(self):
        for name in ("Refused", "Malformed", "Misused"):
            self.assertEqual(getattr(errors, name).__module__, "layerwharf.errors")


if __name__ == "__main__":
    unittest.main()
