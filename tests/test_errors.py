"""[3]: the errors."""

import unittest

from anylead import errors

FIELDS = {
    "BadNumber": ("what", "value"), "BadBook": ("what", "index"), "BadPlace": ("value",), "BadRow": ("value",),
    "BadText": ("line", "column"), "BadName": ("name",), "NoName": ("name",), "TakenName": ("name",),
    "NoMove": ("value",), "Unlike": ("what",), "TooMany": ("what", "limit"), "NotKept": ("promise", "witness"),
    "BadPromise": ("column",), "NothingToUndo": (), "NothingToRedo": (),
}
VALUES = (0, -3, 10 ** 70, 10 ** 5000, True, "word", "", None, (), (1, (2, [3])), [1, [2, (3,)]], {"a": [1]}, b"x", 1.5)


class Errors(unittest.TestCase):
    def test_fields_stay_just_as_they_are(self):
        for name, fields in FIELDS.items():
            for shift in range(len(VALUES)):
                values = [VALUES[(shift + 3 * k) % len(VALUES)] for k in range(len(fields))]
                error = getattr(errors, name)(*values)
                self.assertEqual(list(vars(error)), list(fields), name)
                for field, value in zip(fields, values):
                    self.assertIs(getattr(error, field), value, name)

    def test_lists_in_fields_stay_lists(self):
        row = [1, [2]]
        error = errors.BadRow(row)
        row.append(3)
        self.assertEqual(error.value, [1, [2], 3])

    def test_each_is_a_lead_error_and_a_value_error_and_no_other(self):
        for name, fields in FIELDS.items():
            kind = getattr(errors, name)
            self.assertEqual(kind.__bases__, (errors.LeadError,), name)
            error = kind(*fields)
            self.assertIsInstance(error, errors.LeadError)
            self.assertIsInstance(error, ValueError)
            for other in FIELDS:
                self.assertEqual(isinstance(error, getattr(errors, other)), name == other, (name, other))

    def test_lead_error_is_a_value_error(self):
        self.assertEqual(errors.LeadError.__bases__, (ValueError,))
        self.assertIsInstance(errors.LeadError(), ValueError)

    def test_each_is_defined_in_this_module(self):
        for name in list(FIELDS) + ["LeadError"]:
            self.assertEqual(getattr(errors, name).__module__, "anylead.errors")

    def test_they_can_be_raised_and_caught(self):
        for name, fields in FIELDS.items():
            kind = getattr(errors, name)
            with self.assertRaises(errors.LeadError) as caught:
                raise kind(*fields)
            self.assertIs(type(caught.exception), kind)


if __name__ == "__main__":
    unittest.main()
