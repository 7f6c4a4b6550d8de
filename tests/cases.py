"""What the tests of several parts have in common."""

import unittest
from fractions import Fraction

NO_STRINGS = [None, True, False, 0, 5, 1.5, b"a", [], ["a"], ("a",), {}, {"a": 1}, set(), object(), str]

# Wrong wherever an integer is asked for.
NO_NUMBERS = [True, False, "", "0", "1", 1.0, 0.0, Fraction(1), [], [0], (), (0,), {}, set(), object(), int, b"0"]

NO_LOTS = [
    None, True, 0, "", "a", [], ["a"], {"a"}, {"a": 1}, ("b", "a"), ("a", "a"), ("zz",), ("",), ("a", "zz"), ("A",),
    (None,), (0,), (("a",),), (["a"],), ("a", ["b"]), (b"a",), ({},), ("a", None), object()]

NO_PRIMES = [
    None, True, False, 0, 1, -7, 4, 9, 91, 2 ** 20, "7", 7.0, (7,), [7], {}, Fraction(7), 10 ** 9 + 9, object()]

LARGEST = 10 ** 9 + 7


class Case(unittest.TestCase):
    def refused(self, error, fields, function, *arguments):
        """A call raises an error, whose fields are these very values (numbers and strings: equal ones)."""
        with self.assertRaises(error) as caught:
            function(*arguments)
        self.assertIs(type(caught.exception), error)
        found = tuple(vars(caught.exception).values())
        self.assertEqual(len(found), len(fields))
        for one, other in zip(found, fields):
            if isinstance(one, (int, str)):
                self.assertEqual((type(one), one), (type(other), other))
            else:
                self.assertIs(one, other)
