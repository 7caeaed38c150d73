"""The error classes of the interface."""

import unittest

from threadworth import errors

PLAIN = (
    "NotWorld", "NotNumber", "NotPoly", "NotDiagram", "NotFamily", "NotWord", "NotSum",
    "NotMatrix", "BadNumber", "NoAnswer", "TooLarge", "OpenTrial",
)


class ErrorsTest(unittest.TestCase):

    def test_the_base_class_is_a_value_error(self):
        self.assertEqual(errors.WorthError.__bases__, (ValueError,))

    def test_every_other_class_is_directly_below_it(self):
        for name in PLAIN + ("Malformed", "BadJournal"):
            with self.subTest(name=name):
                kind = getattr(errors, name)
                self.assertEqual(kind.__bases__, (errors.WorthError,))
                self.assertEqual(kind.__module__, "threadworth.errors")

    def test_there_are_no_further_classes(self):
        found = {name for name in vars(errors) if isinstance(getattr(errors, name), type)}
        self.assertEqual(found, set(PLAIN) | {"WorthError", "Malformed", "BadJournal"})

    def test_plain_errors_carry_a_message(self):
        for name in PLAIN:
            with self.subTest(name=name):
                with self.assertRaises(ValueError) as caught:
                    raise getattr(errors, name)("a message")
                self.assertEqual(str(caught.exception), "a message")

    def test_malformed_has_its_integer(self):
        for at in (0, 7, 10 ** 5000):
            with self.assertRaises(errors.WorthError) as caught:
                raise errors.Malformed(at)
            self.assertEqual(caught.exception.at, at)

    def test_bad_journal_has_its_integer(self):
        for row in (0, 7):
            with self.assertRaises(errors.WorthError) as caught:
                raise errors.BadJournal(row)
            self.assertEqual(caught.exception.row, row)
