"""A test case that tells True from 1 and a tuple from a list."""

import unittest


class ExactCase(unittest.TestCase):

    def assertExact(self, actual, expected, told=None):
        """Fail unless both values are equal and of the same kinds throughout."""
        self.assertEqual(repr(actual), repr(expected), told)
