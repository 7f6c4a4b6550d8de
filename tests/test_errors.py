"""Point 3: the errors."""

import unittest

from anymend.errors import (
    BadLot, BadName, BadNumber, BadText, MendError, NoName, NotKept,
    NothingToRedo, NothingToUndo, TakenName, TooMany, TooSmall)

FIELDS = [
    (BadText, ("line", "column")),
    (BadNumber, ("what", "number")),
    (BadName, ("name",)),
    (BadLot, ("lot",)),
    (NoName, ("name",)),
    (TakenName, ("name",)),
    (TooSmall, ("prime", "bound")),
    (TooMany, ("what", "many", "limit")),
    (NotKept, ("promise", "witness")),
    (NothingToUndo, ()),
    (NothingToRedo, ()),
]


class Unwritable:
    """A value that no message can be made of, and that equals nothing."""

    __hash__ = None

    def __eq__(self, other):
        raise RuntimeError("compared")

    def __repr__(self):
        raise RuntimeError("written")

    def __bool__(self):
        raise RuntimeError("asked")


def values():
    circle = []
    circle.append(circle)
    return [
        None, True, False, 0, -1, 10 ** 5000, "", "a1", "\n", b"a", 1.5, [], [1, [2]], (),
        ("a", ("b",)), {}, {"a": 1}, {1, 2}, object(), int, len, ValueError("x"), circle, Unwritable()]


class ErrorsTest(unittest.TestCase):
    def test_the_base_is_a_value_error(self):
        self.assertTrue(issubclass(MendError, ValueError))
        with self.assertRaises(ValueError):
            raise MendError()

    def test_each_derives_directly_from_the_base(self):
        for kind, _ in FIELDS:
            self.assertEqual(kind.__bases__, (MendError,), kind)

    def test_none_is_one_of_the_others(self):
        for kind, fields in FIELDS:
            error = kind(*[1] * len(fields))
            self.assertIsInstance(error, MendError)
            self.assertIsInstance(error, ValueError)
            for other, _ in FIELDS:
                self.assertEqual(isinstance(error, other), other is kind, (kind, other))

    def test_each_keeps_one_value_in_all_fields(self):
        for kind, fields in FIELDS:
            for value in values():
                error = kind(*[value] * len(fields))
                for field in fields:
                    self.assertIs(getattr(error, field), value, (kind, field))

    def test_each_keeps_its_fields_in_order(self):
        for kind, fields in FIELDS:
            told = [[name] for name in fields]
            error = kind(*told)
            for name, value in zip(fields, told):
                self.assertIs(getattr(error, name), value, (kind, name))
                self.assertEqual(value, [name])

    def test_fields_of_unlike_kinds(self):
        many = values()
        for at, value in enumerate(many):
            other, third = many[at - 1], many[at - 2]
            error = TooMany(value, other, third)
            self.assertIs(error.what, value)
            self.assertIs(error.many, other)
            self.assertIs(error.limit, third)

    def test_errors_do_not_share_their_fields(self):
        first, second = BadText(1, 2), BadText(3, 4)
        self.assertEqual((first.line, first.column), (1, 2))
        self.assertEqual((second.line, second.column), (3, 4))

    def test_each_is_raised_and_caught_with_its_fields(self):
        for kind, fields in FIELDS:
            told = [object() for _ in fields]
            for caught in (kind, MendError, ValueError):
                with self.assertRaises(caught) as seen:
                    raise kind(*told)
                self.assertIs(seen.exception.__class__, kind)
                for name, value in zip(fields, told):
                    self.assertIs(getattr(seen.exception, name), value)


if __name__ == "__main__":
    unittest.main()
