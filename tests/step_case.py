"""What the tests of steps share."""

import unittest

from lenstree.errors import StepError
from lenstree.schema import check_schema
from lenstree.steps import script_schema, target_schema
from tests.support import called, described, raised

KEY = ("id", "int", False)


def with_tables(schema, count):
    """Return the schema with further tables, so that it has `count` in all."""
    more = {f"zz{number}": described([("k", "int", False)]) for number in range(count - len(schema))}
    return {**schema, **more}


def wide_columns(count):
    """Return a list of `count` columns with KEY as the first one."""
    return [KEY] + [(f"c{number}", "int", True) for number in range(1, count)]


class StepCase(unittest.TestCase):
    def gives(self, schema, step, expected):
        """See that the step gives exactly this schema, which is valid, also as a script."""
        check_schema(schema)
        result = called(self, target_schema, schema, step)
        self.assertEqual(result, expected)
        self.assertIsNone(check_schema(result))
        self.assertEqual(script_schema(schema, [step]), expected)

    def changes(self, schema, step, tables):
        """See that the step changes just these tables; None stands for a table that vanishes."""
        expected = {name: schema[name] for name in schema}
        expected.update(tables)
        self.gives(schema, step, {name: item for name, item in expected.items() if item is not None})

    def fails(self, schema, step, code):
        """See that the step fails with this code."""
        check_schema(schema)
        error = raised(self, StepError, target_schema, schema, step)
        self.assertEqual((error.code, error.index), (code, 0), step)
        error = raised(self, StepError, script_schema, schema, [step])
        self.assertEqual((error.code, error.index), (code, 0), step)
