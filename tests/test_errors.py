"""[3]: the errors."""

import unittest

from bestlooks import errors

FIELDS = {
    "BadText": ("column",),
    "BadLine": ("line", "column"),
    "BadNumber": ("what", "number"),
    "BadRow": ("row",),
    "BadInterval": ("low", "high"),
    "BadName": ("name",),
    "Unlike": ("what",),
    "NoName": ("name",),
    "TakenName": ("name",),
    "NotKept": ("promise", "witness"),
    "NothingToUndo": (),
    "NothingToRedo": (),
}

VALUES = (0, -3, True, None, "text", b"bytes", 1.5, (), (2, 4), [], [1, [2]], {}, {"a": [1]}, {1}, object(), int)


class Errors(unittest.TestCase):
    def test_all_are_there(self):
        told = {name for name, value in vars(errors).items() if isinstance(value, type)}
        self.assertEqual(told, {"LookError", *FIELDS})

    def test_look_error_is_a_value_error(self):
        self.assertEqual(errors.LookError.__bases__, (ValueError,))

    def test_each_derives_directly_from_look_error(self):
        for name in FIELDS:
            self.assertEqual(getattr(errors, name).__bases__, (errors.LookError,), name)

    def test_each_is_a_look_error_and_no_other_one(self):
        for name, fields in FIELDS.items():
            error = getattr(errors, name)(*fields)
            self.assertIsInstance(error, ValueError)
            self.assertIsInstance(error, errors.LookError)
            for other in FIELDS:
                self.assertEqual(isinstance(error, getattr(errors, other)), name == other, (name, other))

    def test_fields_stand_in_their_order(self):
        for name, fields in FIELDS.items():
            values = [[k] for k in range(len(fields))]
            error = getattr(errors, name)(*values)
            self.assertEqual(vars(error), dict(zip(fields, values)), name)
            self.assertEqual(list(vars(error)), list(fields), name)

    def test_fields_are_kept_just_as_they_are(self):
        for name, fields in FIELDS.items():
            for value in VALUES:
                for at, field in enumerate(fields):
                    values = [None] * len(fields)
                    values[at] = value
                    error = getattr(errors, name)(*values)
                    self.assertIs(getattr(error, field), value, (name, field))

    def test_a_list_stays_that_list(self):
        row = [[1, 2], 3]
        error = errors.BadRow(row)
        row.append(4)
        self.assertIs(error.row, row)
        self.assertEqual(error.row, [[1, 2], 3, 4])

    def test_each_takes_as_many_values_as_it_has_fields(self):
        for name, fields in FIELDS.items():
            if fields:
                with self.assertRaises(TypeError):
                    getattr(errors, name)(*fields[1:])
                with self.assertRaises(TypeError):
                    getattr(errors, name)(*fields, 0)

    def test_an_error_equals_itself_alone(self):
        for name, fields in FIELDS.items():
            error = getattr(errors, name)(*fields)
            self.assertTrue(error == error)
            self.assertFalse(error == getattr(errors, name)(*fields))

    def test_each_can_be_raised_and_caught(self):
        for name, fields in FIELDS.items():
            for kind in (getattr(errors, name), errors.LookError, ValueError):
                with self.assertRaises(kind):
                    raise getattr(errors, name)(*fields)


if __name__ == "__main__":
    unittest.main()
