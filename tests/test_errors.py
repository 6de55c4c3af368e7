"""kindsunder.errors: the classes of errors."""

import unittest

from kindsunder import errors
from tests.base import Case

WITH_MESSAGE = ("InvalidTable", "InvalidType", "InvalidClass", "InvalidParameter", "InvalidSign", "InvalidPlace",
                "InvalidArguments", "InvalidTypes", "InvalidNumber", "InvalidRows", "InvalidProgram", "NotInOrder",
                "NotTame", "NotACertificate")
WITH_VALUE = (("Unsound", "fault"), ("InvalidWatch", "number"), ("InvalidMark", "number"), ("Full", "limit"))


class Errors(Case):
    def test_kind_error_is_a_value_error(self):
        self.assertTrue(issubclass(errors.KindError, ValueError))
        self.assertIsInstance(errors.KindError("words"), ValueError)
        self.assertEqual(str(errors.KindError("words")), "words")

    def test_each_other_class_is_derived_from_kind_error_alone(self):
        for name in WITH_MESSAGE + tuple([one[0] for one in WITH_VALUE]):
            kind = getattr(errors, name)
            self.assertEqual(kind.__bases__, (errors.KindError,), name)
            self.assertEqual((kind.__name__, kind.__module__), (name, "kindsunder.errors"))

    def test_the_classes_are_different_ones(self):
        kinds = [getattr(errors, name) for name in WITH_MESSAGE + tuple([one[0] for one in WITH_VALUE])]
        self.assertEqual(len(set(kinds)), 18)

    def test_created_with_a_message(self):
        for name in WITH_MESSAGE:
            self.assertEqual(str(getattr(errors, name)("some words")), "some words", name)

    def test_created_with_a_value_that_is_kept(self):
        for name, attribute in WITH_VALUE:
            for value in (0, 6, None, True, "words", "", (), ("ring", [0]), [1, 2], ("obstacle", 0, 0, ("super", 0, ()))):
                error = getattr(errors, name)(value)
                self.same(getattr(error, attribute), value, name)
                self.assertIsInstance(error, errors.KindError)

    def test_the_value_is_kept_when_raised(self):
        for name, attribute in WITH_VALUE:
            value = [3]
            with self.assertRaises(ValueError) as caught:
                raise getattr(errors, name)(value)
            self.assertIs(getattr(caught.exception, attribute), value)


if __name__ == "__main__":
    unittest.main()
