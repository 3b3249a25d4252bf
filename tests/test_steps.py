"""Points 17 and 18: the example of the document, and scripts."""

import unittest

from lenstree.errors import StepError
from lenstree.steps import script_schema, target_schema
from tests.support import called, containers, described, only, raised

KEY = ("id", "int", False)
PERSON = described([KEY, ("name", "text", True)])


def adding(number):
    """Return a step that adds a column."""
    return ("add_column", "person", f"c{number}", "int", True, None)


class TargetSchemaTest(unittest.TestCase):
    def test_example_of_the_document(self):
        person = {
            "columns": [("id", "int", False), ("name", "text", True)], "checks": [], "uniques": [], "references": [],
        }
        step = ("split_column", "person", "name", "first", "last", " ")
        expected = [("id", "int", False), ("first", "text", True), ("last", "text", True)]
        self.assertEqual(target_schema({"person": person}, step)["person"]["columns"], expected)

    def test_new_at_each_call(self):
        first = target_schema({"person": PERSON}, adding(1))
        second = target_schema({"person": PERSON}, adding(1))
        self.assertEqual(containers(first) & containers(second), set())


class ScriptSchemaTest(unittest.TestCase):
    def gives(self, script, expected):
        self.assertEqual(called(self, script_schema, {"person": PERSON}, script), expected)

    def fails(self, script, code, index):
        error = raised(self, StepError, script_schema, {"person": PERSON}, script)
        self.assertEqual((error.code, error.index), (code, index))

    def test_no_step(self):
        self.gives([], {"person": PERSON})
        self.assertEqual(script_schema({}, []), {})

    def test_one_step(self):
        self.gives([adding(1)], {"person": described([KEY, ("name", "text", True), ("c1", "int", True)])})

    def test_each_step_sees_what_those_before_it_made(self):
        script = [
            ("rename_table", "person", "folk"),
            ("create_table", "town", (("t", "text", False),)),
            ("rename_column", "folk", "name", "home"),
            ("add_check", "folk", only("home", "!=", "x")),
            ("add_reference", "folk", "home", "town"),
            ("rename_column", "folk", "home", "town"),
        ]
        expected = {
            "folk": described([KEY, ("town", "text", True)], [only("town", "!=", "x")], (), [("town", "town")]),
            "town": described([("t", "text", False)]),
        }
        self.gives(script, expected)

    def test_six_steps(self):
        columns = PERSON["columns"] + [(f"c{number}", "int", True) for number in range(6)]
        self.gives([adding(number) for number in range(6)], {"person": described(columns)})

    def test_seven_steps(self):
        self.fails([adding(number) for number in range(7)], "long", 6)
        self.fails([adding(number) for number in range(8)], "long", 6)

    def test_too_long_before_everything_else(self):
        self.fails([("drop_table", "nope")] * 7, "long", 6)

    def test_index_of_the_first_step_that_fails(self):
        for index in range(6):
            script = [adding(number) for number in range(6)]
            script[index] = ("drop_column", "person", "id", 0)
            self.fails(script, "key", index)
            script[5] = ("drop_table", "nope")
            self.fails(script, "key" if index < 5 else "missing", index)

    def test_steps_on_what_earlier_steps_removed(self):
        self.fails([("drop_table", "person"), adding(1)], "missing", 1)
        self.fails([adding(1), adding(1)], "taken", 1)
        self.fails([("rename_column", "person", "name", "x"), ("drop_column", "person", "name", None)], "missing", 1)

    def test_a_step_that_would_succeed_at_first_fails_later(self):
        script = [adding(number) for number in range(5)] + [("split_column", "person", "name", "a", "b", " ")]
        self.gives(script, {"person": described(
            [KEY, ("a", "text", True), ("b", "text", True)] + [(f"c{number}", "int", True) for number in range(5)])})
        wide = {"person": described(PERSON["columns"] + [("more", "int", True)])}
        error = raised(self, StepError, script_schema, wide, script)
        self.assertEqual((error.code, error.index), ("limit", 5))


if __name__ == "__main__":
    unittest.main()
