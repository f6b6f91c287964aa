"""What the tests ask of calls again and again."""

import unittest

from radixtrail.errors import TrailError


class Check(unittest.TestCase):
    def same(self, got, wanted):
        """That two things are the same, kinds of values too (1 and True differ)."""
        self.assertEqual(got, wanted)
        self.assertEqual(repr(got), repr(wanted))

    def answered(self, wanted, function, *things):
        """That a call answers what is wanted and leaves what is handed in as it was."""
        before = repr(things)
        self.same(function(*things), wanted)
        self.assertEqual(repr(things), before)

    def refused(self, kind, function, *things):
        """That a call is refused with just this kind and leaves what is handed in as it was."""
        before = repr(things)
        for caught in (kind, TrailError, ValueError):
            with self.assertRaises(caught) as held:
                function(*things)
            self.assertIs(type(held.exception), kind)
        self.assertEqual(repr(things), before)
