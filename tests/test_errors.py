"""The errors: their classes, fields and told()."""

import unittest

from letterfolds import errors
from helpers import FIELDS


class ErrorTests(unittest.TestCase):
    def test_base_derives_from_value_error(self):
        self.assertTrue(issubclass(errors.FoldError, ValueError))
        self.assertEqual(errors.FoldError.__bases__, (ValueError,))

    def test_each_derives_directly_from_the_base(self):
        for name in FIELDS:
            self.assertEqual(getattr(errors, name).__bases__, (errors.FoldError,), name)

    def test_each_stands_in_its_file_and_has_its_name(self):
        for name in FIELDS:
            self.assertEqual(getattr(errors, name).__module__, "letterfolds.errors")
            self.assertEqual(getattr(errors, name).__name__, name)

    def test_each_defines_told_itself(self):
        for name in FIELDS:
            self.assertIn("told", vars(getattr(errors, name)), name)

    def test_told_has_refused_and_the_name(self):
        for name, fields in FIELDS.items():
            error = getattr(errors, name)(*range(len(fields)))
            self.assertEqual(error.told(), "refused " + name.lower())

    def test_told_written_out(self):
        self.assertEqual(errors.NoElement(3).told(), "refused noelement")
        self.assertEqual(errors.Unlike().told(), "refused unlike")
        self.assertEqual(errors.NoMonoid("form", -1).told(), "refused nomonoid")
        self.assertEqual(errors.LongTests(2).told(), "refused longtests")

    def test_fields_by_position_keep_what_is_given(self):
        for values in ([[1, [2]], {"a": []}], [None, True], ["x", -1], [("a",), [()]]):
            for name, fields in FIELDS.items():
                error = getattr(errors, name)(*values[:len(fields)])
                for field, value in zip(fields, values):
                    self.assertIs(getattr(error, field), value, name)

    def test_fields_by_keyword(self):
        for name, fields in FIELDS.items():
            values = {field: [field] for field in fields}
            error = getattr(errors, name)(**values)
            for field in fields:
                self.assertIs(getattr(error, field), values[field], name)

    def test_a_list_changed_later_stays_the_list(self):
        given = [1, 2]
        error = errors.NoWord(given)
        given.append(3)
        self.assertIs(error.word, given)
        self.assertEqual(error.word, [1, 2, 3])

    def test_each_is_raised_and_caught_as_the_base_and_as_value_error(self):
        for name, fields in FIELDS.items():
            for base in (errors.FoldError, ValueError):
                with self.assertRaises(base):
                    raise getattr(errors, name)(*fields)

    def test_no_error_is_caught_as_another_one(self):
        for name in FIELDS:
            for other in FIELDS:
                if name != other:
                    self.assertFalse(issubclass(getattr(errors, name), getattr(errors, other)))


if __name__ == "__main__":
    unittest.main()
