"""lenstree.errors: the eleven classes, their fields and what they derive from."""

import unittest

from lenstree import errors

FIELDS = {
    "SchemaError": ["code", "table"],
    "EditError": ["code", "index"],
    "StepError": ["code", "index"],
    "LensError": ["code", "table", "key"],
    "VersionError": ["code"],
    "RejectedError": ["version", "code", "table", "key"],
    "TransactionError": ["code"],
    "QueryError": ["code"],
    "RecordError": ["at"],
    "PowerError": [],
}


class ErrorsTest(unittest.TestCase):
    def test_base_class(self):
        self.assertEqual(errors.StoreError.__bases__, (ValueError,))

    def test_each_derives_directly_from_the_base_class(self):
        for name in FIELDS:
            with self.subTest(name=name):
                self.assertEqual(getattr(errors, name).__bases__, (errors.StoreError,))

    def test_each_is_defined_here(self):
        for name in ["StoreError"] + list(FIELDS):
            with self.subTest(name=name):
                self.assertEqual(getattr(errors, name).__module__, "lenstree.errors")

    def test_fields_are_read_as_they_were_given(self):
        for name, fields in FIELDS.items():
            values = [f"the {field}" for field in fields]
            error = getattr(errors, name)(*values)
            with self.subTest(name=name):
                self.assertEqual([getattr(error, field) for field in fields], values)

    def test_each_can_be_raised_and_caught_as_base(self):
        for name, fields in FIELDS.items():
            with self.subTest(name=name), self.assertRaises(errors.StoreError):
                raise getattr(errors, name)(*range(len(fields)))


if __name__ == "__main__":
    unittest.main()
