"""The interface's list of radixtrail/errors.py."""

import unittest

from radixtrail import errors

KINDS = ["NoName", "NotThere", "Taken", "TooLong", "TooMany", "NoNote", "NothingDone"]


class Errors(unittest.TestCase):
    def test_trail_error_is_a_value_error(self):
        self.assertEqual(errors.TrailError.__bases__, (ValueError,))
        self.assertEqual(errors.TrailError.__module__, "radixtrail.errors")

    def test_each_kind_is_a_trail_error_of_its_own(self):
        for word in KINDS:
            with self.subTest(word=word):
                kind = getattr(errors, word)
                self.assertEqual(kind.__name__, word)
                self.assertEqual(kind.__module__, "radixtrail.errors")
                self.assertEqual(kind.__bases__, (errors.TrailError,))

    def test_each_kind_is_caught_as_a_trail_error_and_as_a_value_error(self):
        for word in KINDS:
            for caught in (getattr(errors, word), errors.TrailError, ValueError):
                with self.subTest(word=word, caught=caught):
                    with self.assertRaises(caught):
                        raise getattr(errors, word)("so it is")

    def test_no_kind_is_caught_as_another(self):
        for word in KINDS:
            for other in KINDS:
                if word != other:
                    kind = getattr(errors, word)
                    self.assertFalse(issubclass(kind, getattr(errors, other)))


if __name__ == "__main__":
    unittest.main()
