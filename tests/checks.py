"""Checks that several tests use."""

import unittest

from livenames.terms import Term
from tests.trees import PLAIN, RICH, X

# A tree, and all else that is no Term.
NO_TERMS = [
    None, True, False, 0, 1, -1, 1.5, "", "x", b"x", [], (), {}, set(), object(), Term,
    X, PLAIN, RICH, list(X), [Term(X)], (Term(X),), {Term: 1}, {"x": Term(X)},
]

# What is no number at all, ahead of the question which numbers will do.
NO_NUMBERS = [
    None, True, False, "", "0", "x", b"0", 0.0, 1.0, 0.5, 1j, [], [0], (), (0,), {}, {0: 0}, set(), {0}, slice(0, 1),
    object(), int, X, PLAIN, Term(X),
]


def no_numbers_below(most):
    """What is no number from 0 to one less than the most."""
    return NO_NUMBERS + [-1, -2, -most, -most - 1, most, most + 1, most + 10, 10 ** 50, -10 ** 50]


class Checks(unittest.TestCase):

    def assert_error(self, kind, told, call, *arguments, **named):
        """That a call raises just this kind of error, made of the very value told."""
        with self.assertRaises(kind, msg=(arguments, named)) as caught:
            call(*arguments, **named)
        self.assertIs(type(caught.exception), kind)
        (value,) = vars(caught.exception).values()
        self.assertIs(value, told)

    def assert_same(self, told, wanted, message=None):
        """That values are equal and of one type, True and 1 not taken for one another."""
        self.assertEqual(told, wanted, message)
        self.assertEqual(repr(told), repr(wanted), message)

    def assert_new_lists(self, call, *arguments, **named):
        """That a call returns a list, and another one, as good, when the first one has been spoilt."""
        first = call(*arguments, **named)
        self.assertIs(type(first), list)
        wanted = list(first)
        first.append("spoilt")
        second = call(*arguments, **named)
        self.assertIsNot(second, first)
        self.assertEqual(second, wanted)
        second.clear()
        self.assertEqual(call(*arguments, **named), wanted)
