"""Point 17: the right schemas and the errors of the steps on columns."""

import ast
import unittest

from tests.step_case import KEY, StepCase, wide_columns
from tests.support import described, only

BAD_NAMES = ("", "A", "9a", "_a", "a b", "x" * 21, "a%")
BAD_SEPARATORS = ("", "ab", "%", "\n", "\t", "\u00e9", "  ")
NAME = ("name", "text", True)
AGE = ("age", "int", True)
TOWN = ("town", "int", False)
WORD = ("word", "text", False)
COLUMNS = [KEY, NAME, AGE, TOWN, WORD]
# In this table age, name and town are used, one by each part of the description; word is not.
PERSON = described(
    COLUMNS, [only("age", ">=", 0), ((("age", "<", 9), ("name", "given", None)),)], ["name", "age"],
    [("town", "place"), ("age", "place")],
)
PLACE = described([("nr", "int", False), ("name", "text", False)])
SCHEMA = {"person": PERSON, "place": PLACE}
FREE = described([KEY, NAME, AGE, TOWN, WORD])


class RenameColumnTest(StepCase):
    def renamed(self, column, name):
        """Return PERSON with a column renamed, by replacing the word everywhere in its text."""
        result = ast.literal_eval(repr({**PERSON, "references": []}).replace(repr(column), repr(name)))
        result["references"] = [(name if own == column else own, other) for own, other in PERSON["references"]]
        return result

    def test_checks_uniques_and_references_follow(self):
        for column in ("id", "name", "age", "town", "word"):
            for name in ("place", "a", "x" * 20, "person", "int_"):
                step = ("rename_column", "person", column, name)
                self.changes(SCHEMA, step, {"person": self.renamed(column, name)})

    def test_whole_schema(self):
        expected = described(
            [KEY, NAME, ("years", "int", True), TOWN, WORD],
            [only("years", ">=", 0), ((("years", "<", 9), ("name", "given", None)),)], ["name", "years"],
            [("town", "place"), ("years", "place")],
        )
        self.gives(SCHEMA, ("rename_column", "person", "age", "years"), {"person": expected, "place": PLACE})

    def test_columns_of_this_name_in_other_tables_stay(self):
        place = described([("nr", "int", False), ("title", "text", False)])
        self.changes(SCHEMA, ("rename_column", "place", "name", "title"), {"place": place})

    def test_the_key_column_of_a_table_that_is_referenced(self):
        place = described([("number", "int", False), ("name", "text", False)])
        self.changes(SCHEMA, ("rename_column", "place", "nr", "number"), {"place": place})

    def test_errors(self):
        self.fails(SCHEMA, ("rename_column", "nope", "age", "years"), "missing")
        self.fails(SCHEMA, ("rename_column", "person", "nope", "years"), "missing")
        self.fails(SCHEMA, ("rename_column", "person", "nr", "years"), "missing")
        for name in BAD_NAMES:
            self.fails(SCHEMA, ("rename_column", "person", "age", name), "name")
        for name in ("id", "name", "age", "word"):
            self.fails(SCHEMA, ("rename_column", "person", "age", name), "taken")

    def test_order_of_errors(self):
        self.fails(SCHEMA, ("rename_column", "nope", "age", "A"), "missing")
        self.fails(SCHEMA, ("rename_column", "person", "nope", "A"), "missing")
        self.fails(SCHEMA, ("rename_column", "person", "nope", "age"), "missing")


class ReorderTest(StepCase):
    def test_right_schema(self):
        person = {**PERSON, "columns": [KEY, WORD, AGE, NAME, TOWN]}
        self.changes(SCHEMA, ("reorder", "person", ("id", "word", "age", "name", "town")), {"person": person})
        self.changes(SCHEMA, ("reorder", "person", ("id", "name", "age", "town", "word")), {})
        self.changes({"a": described([KEY])}, ("reorder", "a", ("id",)), {})

    def test_errors(self):
        self.fails(SCHEMA, ("reorder", "nope", ("id",)), "missing")
        for names in (
            (), ("id",), ("id", "word", "age", "name"), ("id", "word", "age", "name", "town", "nope"),
            ("id", "word", "age", "name", "town", "town"), ("id", "word", "age", "name", "name"),
            ("id", "word", "age", "name", "nope"), ("word", "id", "age", "name", "town"),
            ("name", "age", "town", "word", "id"), ("id", "id", "word", "age", "name", "town"),
        ):
            self.fails(SCHEMA, ("reorder", "person", names), "columns")


class AddColumnTest(StepCase):
    def test_right_schema(self):
        for column, default in (
            (("new", "int", False), 7), (("new", "int", True), None), (("new", "text", False), ""),
            (("new", "text", True), "x" * 30), (("nr", "int", False), -999999999),
        ):
            person = {**PERSON, "columns": COLUMNS + [column]}
            self.changes(SCHEMA, ("add_column", "person") + column + (default,), {"person": person})

    def test_the_eighth_column(self):
        schema = {"a": described(wide_columns(7))}
        expected = {"a": described(wide_columns(7) + [("new", "int", True)])}
        self.gives(schema, ("add_column", "a", "new", "int", True, 1), expected)

    def test_errors(self):
        self.fails(SCHEMA, ("add_column", "nope", "new", "int", True, 1), "missing")
        for name in BAD_NAMES:
            self.fails(SCHEMA, ("add_column", "person", name, "int", True, 1), "name")
        for name in ("id", "name", "word"):
            self.fails(SCHEMA, ("add_column", "person", name, "int", True, 1), "taken")
        self.fails({"a": described(wide_columns(8))}, ("add_column", "a", "new", "int", True, 1), "limit")
        for kind in ("", "real", "Int"):
            self.fails(SCHEMA, ("add_column", "person", "new", kind, True, None), "kind")
        for kind, nullable, default in (
            ("int", True, "1"), ("text", True, 1), ("int", False, None), ("text", False, None),
            ("int", True, 1000000000), ("text", True, "x" * 31), ("text", True, "%"), ("int", True, True),
            ("int", False, False),
        ):
            self.fails(SCHEMA, ("add_column", "person", "new", kind, nullable, default), "kind")

    def test_order_of_errors(self):
        full = {"a": described(wide_columns(8))}
        self.fails(full, ("add_column", "b", "A", "real", True, 1), "missing")
        self.fails(full, ("add_column", "a", "A", "real", True, 1), "name")
        self.fails(full, ("add_column", "a", "c1", "real", True, 1), "taken")
        self.fails(full, ("add_column", "a", "new", "real", True, 1), "limit")


class DropColumnTest(StepCase):
    def test_right_schema(self):
        person = {**PERSON, "columns": [KEY, NAME, AGE, TOWN]}
        self.changes(SCHEMA, ("drop_column", "person", "word", "x"), {"person": person})
        for column, default in (("name", None), ("name", "x"), ("age", None), ("age", -1), ("town", 0), ("word", "")):
            left = [item for item in COLUMNS if item[0] != column]
            self.gives({"a": FREE}, ("drop_column", "a", column, default), {"a": described(left)})

    def test_errors(self):
        self.fails(SCHEMA, ("drop_column", "nope", "word", ""), "missing")
        self.fails(SCHEMA, ("drop_column", "person", "nope", ""), "missing")
        self.fails(SCHEMA, ("drop_column", "person", "id", 0), "key")
        self.fails({"a": described([KEY])}, ("drop_column", "a", "id", 0), "key")
        for column, default in (("name", None), ("age", None), ("town", 0)):
            self.fails(SCHEMA, ("drop_column", "person", column, default), "used")
        for column, default in (
            ("name", 1), ("age", ""), ("town", None), ("word", None), ("word", 0), ("town", True), ("word", "x" * 31),
            ("age", 1000000000), ("age", "1"),
        ):
            self.fails({"a": FREE}, ("drop_column", "a", column, default), "kind")

    def test_each_use_alone(self):
        for checks, uniques, references in (
            ([only("town", "=", 1)], [], []), ([], ["town"], []), ([], [], [("town", "place")]),
        ):
            schema = {"person": described(COLUMNS, checks, uniques, references), "place": PLACE}
            self.fails(schema, ("drop_column", "person", "town", 0), "used")

    def test_order_of_errors(self):
        checked = {"a": described(COLUMNS, [only("id", ">", 0), only("age", ">", 0)])}
        self.fails(checked, ("drop_column", "b", "id", None), "missing")
        self.fails(checked, ("drop_column", "a", "nope", None), "missing")
        self.fails(checked, ("drop_column", "a", "id", "x"), "key")
        self.fails(checked, ("drop_column", "a", "age", "x"), "used")


class ConvertTest(StepCase):
    def test_right_schema(self):
        for kind in ("int", "text"):
            for nullable in (True, False):
                step = ("convert", "person", "word", kind, nullable)
                person = {**PERSON, "columns": [KEY, NAME, AGE, TOWN, ("word", kind, nullable)]}
                self.changes(SCHEMA, step, {"person": person})
        expected = described([KEY, NAME, ("age", "text", False), TOWN, WORD])
        self.gives({"a": FREE}, ("convert", "a", "age", "text", False), {"a": expected})

    def test_errors(self):
        self.fails(SCHEMA, ("convert", "nope", "word", "int", True), "missing")
        self.fails(SCHEMA, ("convert", "person", "nope", "int", True), "missing")
        self.fails(SCHEMA, ("convert", "person", "id", "int", True), "key")
        for column in ("name", "age", "town"):
            self.fails(SCHEMA, ("convert", "person", column, "int", True), "used")
        for kind in ("", "real", "Text"):
            self.fails(SCHEMA, ("convert", "person", "word", kind, True), "kind")

    def test_order_of_errors(self):
        checked = {"a": described(COLUMNS, [only("id", ">", 0), only("age", ">", 0)])}
        self.fails(checked, ("convert", "b", "id", "real", True), "missing")
        self.fails(checked, ("convert", "a", "nope", "real", True), "missing")
        self.fails(checked, ("convert", "a", "id", "real", True), "key")
        self.fails(checked, ("convert", "a", "age", "real", True), "used")


class SplitColumnTest(StepCase):
    def test_example_of_the_document(self):
        person = described([KEY, ("name", "text", True)])
        expected = described([KEY, ("first", "text", True), ("last", "text", True)])
        self.gives({"person": person}, ("split_column", "person", "name", "first", "last", " "), {"person": expected})

    def test_right_schema(self):
        person = {**PERSON, "columns": [KEY, NAME, AGE, TOWN, ("a", "text", False), ("b", "text", False)]}
        self.changes(SCHEMA, ("split_column", "person", "word", "a", "b", ","), {"person": person})
        expected = described([KEY, ("b", "text", True), ("a", "text", True), AGE, TOWN, WORD])
        self.gives({"a": FREE}, ("split_column", "a", "name", "b", "a", "~"), {"a": expected})

    def test_a_new_column_may_have_the_name_of_the_old_one(self):
        for first, second in (("name", "last"), ("first", "name")):
            expected = described([KEY, (first, "text", True), (second, "text", True), AGE, TOWN, WORD])
            self.gives({"a": FREE}, ("split_column", "a", "name", first, second, " "), {"a": expected})

    def test_the_eighth_column(self):
        columns = wide_columns(6) + [WORD]
        expected = {"a": described(wide_columns(6) + [("a", "text", False), ("b", "text", False)])}
        self.gives({"a": described(columns)}, ("split_column", "a", "word", "a", "b", " "), expected)

    def test_errors(self):
        self.fails(SCHEMA, ("split_column", "nope", "word", "a", "b", " "), "missing")
        self.fails(SCHEMA, ("split_column", "person", "nope", "a", "b", " "), "missing")
        keyed = {"a": described([("id", "text", False), NAME])}
        self.fails(keyed, ("split_column", "a", "id", "a", "b", " "), "key")
        self.fails(SCHEMA, ("split_column", "person", "name", "a", "b", " "), "used")
        self.fails({"a": FREE}, ("split_column", "a", "age", "a", "b", " "), "kind")
        for separator in BAD_SEPARATORS:
            self.fails(SCHEMA, ("split_column", "person", "word", "a", "b", separator), "kind")
        for name in BAD_NAMES:
            self.fails(SCHEMA, ("split_column", "person", "word", name, "b", " "), "name")
            self.fails(SCHEMA, ("split_column", "person", "word", "a", name, " "), "name")
        for first, second in (("a", "a"), ("word", "word"), ("id", "a"), ("a", "id"), ("age", "a"), ("a", "town")):
            self.fails(SCHEMA, ("split_column", "person", "word", first, second, " "), "taken")
        full = {"a": described(wide_columns(7) + [WORD])}
        self.fails(full, ("split_column", "a", "word", "a", "b", " "), "limit")

    def test_order_of_errors(self):
        columns = [("id", "text", False)] + wide_columns(6)[1:] + [NAME, WORD]
        full = {"a": described(columns, [only("id", ">", ""), only("c1", ">", 0)])}
        self.fails(full, ("split_column", "b", "id", "A", "A", "%"), "missing")
        self.fails(full, ("split_column", "a", "nope", "A", "A", "%"), "missing")
        self.fails(full, ("split_column", "a", "id", "A", "A", "%"), "key")
        self.fails(full, ("split_column", "a", "c1", "A", "A", "%"), "used")
        self.fails(full, ("split_column", "a", "c2", "A", "A", "%"), "kind")
        self.fails(full, ("split_column", "a", "c2", "A", "A", " "), "kind")
        self.fails(full, ("split_column", "a", "word", "A", "A", "%"), "kind")
        self.fails(full, ("split_column", "a", "word", "A", "A", " "), "name")
        self.fails(full, ("split_column", "a", "word", "c1", "A", " "), "name")
        self.fails(full, ("split_column", "a", "word", "x", "x", " "), "taken")
        self.fails(full, ("split_column", "a", "word", "x", "c1", " "), "taken")


class MergeColumnsTest(StepCase):
    columns = [KEY, ("a", "text", True), ("b", "text", False), ("c", "text", True), ("n", "int", True)]

    def merged(self, first, second, name, columns):
        step = ("merge_columns", "t", first, second, name, " ")
        self.gives({"t": described(self.columns)}, step, {"t": described(columns)})

    def test_right_schema(self):
        key, a, b, c, n = self.columns
        self.merged("a", "b", "new", [key, ("new", "text", False), c, n])
        self.merged("b", "a", "new", [key, ("new", "text", False), c, n])
        self.merged("a", "c", "new", [key, ("new", "text", True), b, n])
        self.merged("c", "a", "new", [key, b, ("new", "text", True), n])
        self.merged("c", "b", "new", [key, a, ("new", "text", False), n])
        self.merged("b", "c", "new", [key, a, ("new", "text", False), n])

    def test_not_nullable_at_all(self):
        schema = {"t": described([KEY, ("a", "text", False), ("b", "text", False)])}
        step = ("merge_columns", "t", "a", "b", "new", ",")
        self.gives(schema, step, {"t": described([KEY, ("new", "text", False)])})

    def test_the_new_column_may_have_the_name_of_an_old_one(self):
        key, a, b, c, n = self.columns
        self.merged("a", "c", "a", [key, ("a", "text", True), b, n])
        self.merged("a", "c", "c", [key, ("c", "text", True), b, n])
        self.merged("c", "a", "a", [key, b, ("a", "text", True), n])
        self.merged("c", "a", "c", [key, b, ("c", "text", True), n])

    def test_limits_stay(self):
        person = described(self.columns, [only("c", "given", None)], ["n"], [("n", "place")])
        expected = {**person, "columns": [KEY, ("x", "text", False), ("c", "text", True), ("n", "int", True)]}
        self.changes({"t": person, "place": PLACE}, ("merge_columns", "t", "a", "b", "x", " "), {"t": expected})

    def test_errors(self):
        schema = {"t": described(self.columns)}
        self.fails(schema, ("merge_columns", "nope", "a", "b", "x", " "), "missing")
        self.fails(schema, ("merge_columns", "t", "nope", "b", "x", " "), "missing")
        self.fails(schema, ("merge_columns", "t", "a", "nope", "x", " "), "missing")
        keyed = {"t": described([("id", "text", False)] + self.columns[1:])}
        self.fails(keyed, ("merge_columns", "t", "id", "b", "x", " "), "key")
        self.fails(keyed, ("merge_columns", "t", "a", "id", "x", " "), "key")
        used = {"t": described(self.columns, [], ["a"])}
        self.fails(used, ("merge_columns", "t", "a", "b", "x", " "), "used")
        self.fails(used, ("merge_columns", "t", "b", "a", "x", " "), "used")
        self.fails(schema, ("merge_columns", "t", "a", "n", "x", " "), "kind")
        self.fails(schema, ("merge_columns", "t", "n", "a", "x", " "), "kind")
        for separator in BAD_SEPARATORS:
            self.fails(schema, ("merge_columns", "t", "a", "b", "x", separator), "kind")
        for name in BAD_NAMES:
            self.fails(schema, ("merge_columns", "t", "a", "b", name, " "), "name")
        for name in ("id", "c", "n"):
            self.fails(schema, ("merge_columns", "t", "a", "b", name, " "), "taken")
        for name in ("x", "a", "b"):
            self.fails(schema, ("merge_columns", "t", "a", "a", name, " "), "taken")

    def test_order_of_errors(self):
        columns = [("id", "text", False)] + self.columns[1:]
        schema = {"t": described(columns, [only("id", ">", ""), only("n", ">", 0)])}
        self.fails(schema, ("merge_columns", "u", "id", "id", "A", "%"), "missing")
        self.fails(schema, ("merge_columns", "t", "id", "nope", "A", "%"), "missing")
        self.fails(schema, ("merge_columns", "t", "id", "id", "A", "%"), "key")
        self.fails(schema, ("merge_columns", "t", "n", "id", "A", "%"), "key")
        self.fails(schema, ("merge_columns", "t", "n", "n", "A", "%"), "used")
        self.fails(schema, ("merge_columns", "t", "a", "a", "A", "%"), "kind")
        self.fails(schema, ("merge_columns", "t", "a", "a", "A", " "), "name")
        free = {"t": described(columns)}
        self.fails(free, ("merge_columns", "t", "n", "n", "A", " "), "kind")
        self.fails(free, ("merge_columns", "t", "n", "n", "a", " "), "kind")


if __name__ == "__main__":
    unittest.main()
