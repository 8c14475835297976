"""Promise [3]: the errors."""

import unittest

from suregate import errors


class ErrorsTest(unittest.TestCase):
    FIELDS = {
        "InvalidCircuit": {"part": "ands", "index": 3},
        "InvalidNetlist": {"part": "tables", "index": 4},
        "InvalidText": {"line": 5},
        "InvalidSource": {"line": 6, "reason": "word"},
        "InvalidCourse": {"index": 7},
        "InvalidStep": {"index": 8},
        "InvalidLabels": {"index": 9},
        "InvalidDelays": {"index": 10},
        "InvalidCut": {"node": 11},
        "UnlikeInterfaces": {},
        "TooHard": {},
        "TooManyStates": {},
        "InvalidPeriod": {},
        "InvalidCount": {},
    }

    def test_base_class_derives_from_value_error(self):
        self.assertEqual((ValueError,), errors.SuregateError.__bases__)

    def test_each_error_derives_directly_from_the_base_class(self):
        for name in self.FIELDS:
            self.assertEqual((errors.SuregateError,), getattr(errors, name).__bases__, name)

    def test_there_is_no_further_error(self):
        found = {name for name, value in vars(errors).items() if isinstance(value, type)}
        self.assertEqual(set(self.FIELDS) | {"SuregateError"}, found)

    def test_fields(self):
        for name, fields in self.FIELDS.items():
            error = getattr(errors, name)(*fields.values())
            self.assertEqual(fields, vars(error), name)

    def test_errors_have_a_message(self):
        for name, fields in self.FIELDS.items():
            message = str(getattr(errors, name)(*fields.values()))
            self.assertTrue(all(str(value) in message for value in fields.values()), name)

    def test_errors_without_fields_can_be_raised_with_nothing(self):
        for name, fields in self.FIELDS.items():
            if not fields:
                with self.assertRaises(errors.SuregateError):
                    raise getattr(errors, name)


if __name__ == "__main__":
    unittest.main()
