"""kindsunder.wrongs: the classes of errors of the later stages."""

import unittest

from kindsunder import errors, wrongs
from tests.base import Case

WITH_MESSAGE = ("InvalidBounds", "InvalidSide", "InvalidCall", "InvalidChoice", "InvalidHalf", "InvalidCrossing", "NotARecord")
WITH_VALUE = (("InvalidUnknown", "number"), ("Barred", "pairs"), ("Barren", "floors"))
NAMES = WITH_MESSAGE + tuple([one[0] for one in WITH_VALUE])


class Wrongs(Case):
    def test_each_is_derived_from_kind_error_alone(self):
        for name in NAMES:
            kind = getattr(wrongs, name)
            self.assertEqual(kind.__bases__, (errors.KindError,), name)
            self.assertEqual((kind.__name__, kind.__module__), (name, "kindsunder.wrongs"))

    def test_the_classes_are_different_ones(self):
        kinds = [getattr(wrongs, name) for name in NAMES]
        self.assertEqual(len(set(kinds)), 10)
        self.assertEqual([name for name in NAMES if hasattr(errors, name)], [])

    def test_created_with_a_message(self):
        for name in WITH_MESSAGE:
            self.assertEqual(str(getattr(wrongs, name)("some words")), "some words", name)

    def test_created_with_a_value_that_is_kept(self):
        for name, attribute in WITH_VALUE:
            for value in (0, 6, None, True, "words", (), [], [(((), ()), None)], [((3,), (0, "a"))]):
                error = getattr(wrongs, name)(value)
                self.assertIs(getattr(error, attribute), value)
                self.assertIsInstance(error, errors.KindError)
                self.assertIsInstance(error, ValueError)

    def test_raised_and_caught(self):
        for name in WITH_MESSAGE:
            with self.assertRaises(errors.KindError) as caught:
                raise getattr(wrongs, name)("words")
            self.assertIs(type(caught.exception), getattr(wrongs, name))
        for name, attribute in WITH_VALUE:
            value = [3]
            with self.assertRaises(ValueError) as caught:
                raise getattr(wrongs, name)(value)
            self.assertIs(getattr(caught.exception, attribute), value)


if __name__ == "__main__":
    unittest.main()
