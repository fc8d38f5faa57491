"""Point [3]: the errors, their fields and their descent."""

import copy
import unittest

from flowpapers import errors

FIELDS = {
    "BadText": ("column",),
    "BadLine": ("line", "column"),
    "BadNumber": ("what", "number"),
    "BadRow": ("row",),
    "BadName": ("name",),
    "Shared": ("plane",),
    "NoRest": ("place",),
    "NotRound": (),
    "NoName": ("name",),
    "TakenName": ("name",),
    "NotKept": ("promise", "witness"),
    "NothingToUndo": (),
    "NothingToRedo": (),
}

VALUES = (
    "text", "", None, True, 0, -7, 10 ** 5000, (1, 2), (), [1, [2, 3]], [], {"a": [1]}, b"x", 1.5,
    object(), len, ValueError("inner"),
)


class TestErrors(unittest.TestCase):

    def test_thirteen_and_their_base(self):
        found = {name for name, value in vars(errors).items() if isinstance(value, type)}
        self.assertEqual(found, set(FIELDS) | {"FlowError"})
        self.assertEqual(errors.FlowError.__bases__, (ValueError,))

    def test_each_derives_directly_from_flow_error_alone(self):
        for name in FIELDS:
            kind = getattr(errors, name)
            self.assertEqual(kind.__bases__, (errors.FlowError,), name)
            self.assertEqual(kind.__module__, "flowpapers.errors")

    def test_an_object_is_of_no_other_error_class(self):
        for name, fields in FIELDS.items():
            error = getattr(errors, name)(*fields)
            self.assertIsInstance(error, ValueError)
            self.assertIsInstance(error, errors.FlowError)
            for other in FIELDS:
                self.assertEqual(isinstance(error, getattr(errors, other)), other == name)

    def test_fields_are_kept_in_order_just_as_they_are(self):
        for name, fields in FIELDS.items():
            for value in VALUES:
                for other in VALUES:
                    given = (value, other)[:len(fields)]
                    error = getattr(errors, name)(*given)
                    for field, kept in zip(fields, given):
                        self.assertIs(getattr(error, field), kept, (name, field))

    def test_a_list_is_kept_as_that_very_list(self):
        row = [1, [2]]
        error = errors.BadRow(row)
        row.append(3)
        self.assertIs(error.row, row)
        self.assertEqual(error.row, [1, [2], 3])

    def test_there_are_no_other_fields(self):
        for name, fields in FIELDS.items():
            error = getattr(errors, name)(*VALUES[:len(fields)])
            self.assertEqual(set(vars(error)), set(fields), name)

    def test_fields_must_be_there(self):
        for name, fields in FIELDS.items():
            if fields:
                with self.assertRaises(TypeError):
                    getattr(errors, name)(*fields[1:])
                with self.assertRaises(TypeError):
                    getattr(errors, name)(*fields, 1)

    def test_they_can_be_raised_and_caught(self):
        for name, fields in FIELDS.items():
            for caught in (getattr(errors, name), errors.FlowError, ValueError):
                with self.assertRaises(caught) as seen:
                    raise getattr(errors, name)(*fields)
                for field in fields:
                    self.assertEqual(getattr(seen.exception, field), field)

    def test_a_copy_has_the_same_fields(self):
        for name, fields in FIELDS.items():
            again = copy.copy(getattr(errors, name)(*fields))
            self.assertEqual([getattr(again, field) for field in fields], list(fields))


if __name__ == "__main__":
    unittest.main()
