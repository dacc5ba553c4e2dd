"""What several files of tests ask."""

import unittest


class Case(unittest.TestCase):
    """A test case that can ask for an error with its fields."""

    def refused(self, error, fields, call, *given):
        """The call raises just this error, with these fields."""
        with self.assertRaises(error) as caught:
            call(*given)
        self.assertIs(caught.exception.__class__, error)
        for field, value in fields.items():
            told = getattr(caught.exception, field)
            self.assertEqual(told, value)
            self.assertIs(told.__class__, value.__class__)
        return caught.exception

    def refused_with(self, error, field, value, call, *given):
        """The call raises this error, with this very value."""
        with self.assertRaises(error) as caught:
            call(*given)
        self.assertIs(caught.exception.__class__, error)
        self.assertIs(getattr(caught.exception, field), value)
