"""The error classes of the interface."""

import unittest

from sharenet import errors

PLAIN = ["InvalidText", "TooLarge", "KindMismatch", "LevelMismatch", "UseMismatch", "InvalidNet", "Unreadable",
         "InvalidStep", "TooLong"]
NAMED = ["DuplicateName", "UnknownName"]


class ErrorClasses(unittest.TestCase):
    def test_the_base_class_is_a_value_error(self):
        self.assertEqual(errors.SharenetError.__bases__, (ValueError,))

    def test_every_class_is_a_direct_subclass_of_the_base_class(self):
        for name in PLAIN + NAMED:
            with self.subTest(name):
                self.assertEqual(getattr(errors, name).__bases__, (errors.SharenetError,))

    def test_all_classes_are_defined_here(self):
        for name in PLAIN + NAMED + ["SharenetError"]:
            with self.subTest(name):
                self.assertEqual(getattr(errors, name).__module__, "sharenet.errors")
                self.assertEqual(getattr(errors, name).__name__, name)

    def test_plain_errors_can_be_raised_with_and_without_words(self):
        for name in PLAIN + ["SharenetError"]:
            with self.subTest(name):
                with self.assertRaises(errors.SharenetError):
                    raise getattr(errors, name)("words")
                with self.assertRaises(ValueError):
                    raise getattr(errors, name)()

    def test_named_errors_have_the_name(self):
        for name in NAMED:
            with self.subTest(name):
                error = getattr(errors, name)("abc")
                self.assertEqual(error.name, "abc")
                self.assertIn("abc", str(error))

    def test_named_errors_keep_their_own_names(self):
        first, second = errors.UnknownName("a"), errors.UnknownName("b")
        self.assertEqual((first.name, second.name), ("a", "b"))

    def test_named_errors_need_a_name(self):
        for name in NAMED:
            with self.subTest(name):
                self.assertRaises(TypeError, getattr(errors, name))
