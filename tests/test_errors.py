"""Tests of livenames.errors."""

import unittest

from livenames import errors

ATTRIBUTES = {
    "NoTerm": "told",
    "NoNode": "index",
    "NoBinder": "binder",
    "NoUse": "number",
    "NoNames": "names",
    "NoPool": "pool",
    "NoNumber": "value",
    "NoWishes": "wishes",
    "NoWeights": "weights",
    "NoForm": "form",
    "NoLinks": "links",
    "NothingBack": "many",
    "NoNote": "line",
}

ANY_VALUES = [None, True, False, 0, -1, 10 ** 50, "", "text", b"x", (), ("use", "x"), [1], {"a": []}, {1}, object()]


def each_error():
    return [(getattr(errors, name), attribute) for name, attribute in {**ATTRIBUTES, "TooMany": "most"}.items()]


class TestErrors(unittest.TestCase):

    def test_made_by_position_and_by_name(self):
        for error, attribute in each_error():
            for value in ANY_VALUES:
                self.assertIs(getattr(error(value), attribute), value)
                self.assertIs(getattr(error(**{attribute: value}), attribute), value)

    def test_made_of_just_one_argument(self):
        for error, attribute in each_error():
            with self.assertRaises(TypeError):
                error()
            with self.assertRaises(TypeError):
                error(1, 2)
            with self.assertRaises(TypeError):
                error(other=1)

    def test_raised_with_its_argument(self):
        for error, attribute in each_error():
            with self.assertRaises(error) as caught:
                raise error(ANY_VALUES)
            self.assertIs(getattr(caught.exception, attribute), ANY_VALUES)

    def test_thirteen_directly_under_binder_error(self):
        self.assertEqual(len(ATTRIBUTES), 13)
        for name in ATTRIBUTES:
            self.assertEqual(getattr(errors, name).__bases__, (errors.BinderError,), name)

    def test_none_under_another_one(self):
        for name in ATTRIBUTES:
            for other in ATTRIBUTES:
                under = issubclass(getattr(errors, name), getattr(errors, other))
                self.assertEqual(under, name == other, (name, other))

    def test_binder_error_is_a_value_error(self):
        self.assertEqual(errors.BinderError.__bases__, (ValueError,))

    def test_too_many_is_an_overflow_error_alone(self):
        self.assertEqual(errors.TooMany.__bases__, (OverflowError,))
        self.assertFalse(issubclass(errors.TooMany, errors.BinderError))


if __name__ == "__main__":
    unittest.main()
