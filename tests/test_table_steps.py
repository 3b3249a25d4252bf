"""Point 17: the right schemas and the errors of the steps on tables."""

import unittest

from lenstree.steps import target_schema
from tests.step_case import KEY, StepCase, wide_columns, with_tables
from tests.support import described, only

BAD_NAMES = ("", "A", "9a", "_a", "a b", "x" * 21, "a%")
NAME = ("name", "text", True)
AGE = ("age", "int", True)
TOWN = ("town", "int", False)
WORD = ("word", "text", False)
COLUMNS = [KEY, NAME, AGE, TOWN, WORD]
PERSON = described(COLUMNS, [only("age", ">=", 0)], ["name"], [("town", "place")])
PLACE = described([("nr", "int", False), ("title", "text", False)], [only("nr", ">", 0)])
FREE = described(COLUMNS)
SCHEMA = {"person": PERSON, "place": PLACE}
YOUNG = only("age", "<", 18)
BAD_CONDITIONS = (only("nope", "=", 1), only("age", "=", "1"), only("word", "=", 1), only("age", "=", 1000000000))


def referring(table, column=AGE):
    """Return the description of a table with a reference to another one."""
    return described([KEY, column], (), (), [(column[0], table)])


class RenameTableTest(StepCase):
    def test_right_schema(self):
        self.gives(SCHEMA, ("rename_table", "person", "folk"), {"folk": PERSON, "place": PLACE})

    def test_references_follow(self):
        schema = {
            "person": described(COLUMNS, [only("age", ">=", 0)], ["name"], [("age", "land"), ("town", "place")]),
            "place": described([KEY, AGE], (), (), [("age", "land")]),
            "land": described([KEY, ("age", "int", True)], (), (), [("age", "place")]),
        }
        expected = {
            "person": described(COLUMNS, [only("age", ">=", 0)], ["name"], [("age", "land"), ("town", "city")]),
            "city": described([KEY, AGE], (), (), [("age", "land")]),
            "land": described([KEY, ("age", "int", True)], (), (), [("age", "city")]),
        }
        self.gives(schema, ("rename_table", "place", "city"), expected)

    def test_columns_of_this_name_stay(self):
        schema = {"age": described([KEY]), "person": described([KEY, AGE], [YOUNG], ["age"], [("age", "age")])}
        expected = {"old": described([KEY]), "person": described([KEY, AGE], [YOUNG], ["age"], [("age", "old")])}
        self.gives(schema, ("rename_table", "age", "old"), expected)

    def test_as_many_tables_as_allowed(self):
        schema = with_tables(SCHEMA, 6)
        self.changes(schema, ("rename_table", "person", "folk"), {"person": None, "folk": PERSON})

    def test_errors(self):
        self.fails(SCHEMA, ("rename_table", "nope", "folk"), "missing")
        for name in BAD_NAMES:
            self.fails(SCHEMA, ("rename_table", "person", name), "name")
        self.fails(SCHEMA, ("rename_table", "person", "place"), "taken")
        self.fails(SCHEMA, ("rename_table", "person", "person"), "taken")

    def test_order_of_errors(self):
        self.fails(SCHEMA, ("rename_table", "nope", "A"), "missing")
        self.fails(SCHEMA, ("rename_table", "nope", "place"), "missing")


class CreateTableTest(StepCase):
    def test_right_schema(self):
        for columns in ([KEY], COLUMNS, wide_columns(8), [("t", "text", False)]):
            self.changes(SCHEMA, ("create_table", "new", tuple(columns)), {"new": described(columns)})
        self.gives({}, ("create_table", "new", (KEY,)), {"new": described([KEY])})

    def test_the_sixth_table(self):
        self.changes(with_tables(SCHEMA, 5), ("create_table", "new", (KEY,)), {"new": described([KEY])})

    def test_errors(self):
        for name in BAD_NAMES:
            self.fails(SCHEMA, ("create_table", name, (KEY,)), "name")
        self.fails(SCHEMA, ("create_table", "person", (KEY,)), "taken")
        self.fails(with_tables(SCHEMA, 6), ("create_table", "new", (KEY,)), "limit")
        for columns in (
            (), tuple(wide_columns(9)), (KEY, AGE, AGE), (KEY, ("id", "text", True)), (("id", "int", True),),
            (("id", "real", False),), (KEY, ("a", "", True)), (("Id", "int", False),), (KEY, ("", "int", True)),
            (KEY, ("a b", "int", True)), (KEY, ("x" * 21, "int", True)),
        ):
            self.fails(SCHEMA, ("create_table", "new", columns), "columns")

    def test_order_of_errors(self):
        full = with_tables(SCHEMA, 6)
        self.fails(full, ("create_table", "A", ()), "name")
        self.fails(full, ("create_table", "person", ()), "taken")
        self.fails(full, ("create_table", "new", ()), "limit")


class DropTableTest(StepCase):
    def test_right_schema(self):
        self.gives(SCHEMA, ("drop_table", "person"), {"place": PLACE})
        self.gives({"a": described([KEY])}, ("drop_table", "a"), {})

    def test_errors(self):
        self.fails(SCHEMA, ("drop_table", "nope"), "missing")
        self.fails(SCHEMA, ("drop_table", "place"), "referenced")


class DecomposeTest(StepCase):
    def test_right_schema(self):
        table, other = described([KEY, TOWN]), described([KEY, NAME, AGE, WORD])
        for columns in (("name", "age", "word"), ("word", "name", "age")):
            self.gives({"a": FREE}, ("decompose", "a", "b", columns), {"a": table, "b": other})

    def test_all_columns_but_the_key(self):
        step = ("decompose", "a", "b", ("word", "town", "age", "name"))
        self.gives({"a": FREE}, step, {"a": described([KEY]), "b": described(COLUMNS)})

    def test_limits_stay_at_the_table(self):
        person = {**PERSON, "columns": [KEY, NAME, AGE, TOWN]}
        self.changes(SCHEMA, ("decompose", "person", "b", ("word",)), {"person": person, "b": described([KEY, WORD])})

    def test_a_table_that_is_referenced(self):
        place = described([("nr", "int", False)], [only("nr", ">", 0)])
        other = described([("nr", "int", False), ("title", "text", False)])
        self.changes(SCHEMA, ("decompose", "place", "b", ("title",)), {"place": place, "b": other})

    def test_a_key_of_kind_text(self):
        key = ("t", "text", False)
        expected = {"a": described([key]), "b": described([key, AGE])}
        self.gives({"a": described([key, AGE])}, ("decompose", "a", "b", ("age",)), expected)

    def test_the_sixth_table(self):
        schema = with_tables({"a": FREE}, 5)
        tables = {"a": described([KEY, NAME, AGE, TOWN]), "b": described([KEY, WORD])}
        self.changes(schema, ("decompose", "a", "b", ("word",)), tables)

    def test_errors(self):
        self.fails(SCHEMA, ("decompose", "nope", "b", ("word",)), "missing")
        self.fails(SCHEMA, ("decompose", "person", "b", ("nope",)), "missing")
        self.fails(SCHEMA, ("decompose", "person", "b", ("word", "nope")), "missing")
        self.fails(SCHEMA, ("decompose", "person", "b", ("id",)), "key")
        self.fails(SCHEMA, ("decompose", "person", "b", ("word", "id")), "key")
        for column in ("age", "name", "town"):
            self.fails(SCHEMA, ("decompose", "person", "b", (column,)), "used")
            self.fails(SCHEMA, ("decompose", "person", "b", ("word", column)), "used")
        self.fails(SCHEMA, ("decompose", "person", "b", ()), "columns")
        self.fails(SCHEMA, ("decompose", "person", "b", ("word", "word")), "columns")
        self.fails({"a": FREE}, ("decompose", "a", "b", ("word", "age", "word")), "columns")
        for name in BAD_NAMES:
            self.fails(SCHEMA, ("decompose", "person", name, ("word",)), "name")
        self.fails(SCHEMA, ("decompose", "person", "place", ("word",)), "taken")
        self.fails(SCHEMA, ("decompose", "person", "person", ("word",)), "taken")
        self.fails(with_tables(SCHEMA, 6), ("decompose", "person", "b", ("word",)), "limit")

    def test_order_of_errors(self):
        full = with_tables({**SCHEMA, "person": {**PERSON, "checks": [only("id", ">", 0)]}}, 6)
        self.fails(full, ("decompose", "nope", "A", ()), "missing")
        self.fails(full, ("decompose", "person", "A", ("id", "nope")), "missing")
        self.fails(full, ("decompose", "person", "A", ("name", "id", "id")), "key")
        self.fails(full, ("decompose", "person", "A", ("name", "name")), "used")
        self.fails(full, ("decompose", "person", "A", ("word", "word")), "columns")
        self.fails(full, ("decompose", "person", "A", ()), "columns")
        self.fails(full, ("decompose", "person", "A", ("word",)), "name")
        self.fails(full, ("decompose", "person", "place", ("word",)), "taken")


class RecomposeTest(StepCase):
    other = described([("nr", "int", False), ("x", "int", False), ("y", "text", True)])

    def test_right_schema(self):
        expected = {"a": described(COLUMNS + self.other["columns"][1:])}
        self.gives({"a": FREE, "b": self.other}, ("recompose", "a", "b"), expected)
        expected = {"b": described(self.other["columns"] + COLUMNS[1:])}
        self.gives({"a": FREE, "b": self.other}, ("recompose", "b", "a"), expected)

    def test_limits_and_references_of_the_table_stay(self):
        schema = {**SCHEMA, "b": self.other, "c": referring("person")}
        tables = {"person": {**PERSON, "columns": COLUMNS + self.other["columns"][1:]}, "b": None}
        self.changes(schema, ("recompose", "person", "b"), tables)

    def test_key_columns_of_one_name_and_of_two(self):
        expected = {"a": described([KEY, NAME, AGE])}
        self.gives({"a": described([KEY, NAME]), "b": described([KEY, AGE])}, ("recompose", "a", "b"), expected)
        other = described([("name", "int", False), AGE])
        self.gives({"a": described([KEY, NAME]), "b": other}, ("recompose", "a", "b"), expected)

    def test_a_table_with_nothing_but_a_key(self):
        self.gives({"a": FREE, "b": described([KEY])}, ("recompose", "a", "b"), {"a": FREE})
        self.gives({"a": FREE, "b": described([KEY])}, ("recompose", "b", "a"), {"b": FREE})

    def test_eight_columns(self):
        other = described([("nr", "int", False), ("x", "int", False)])
        schema = {"a": described(wide_columns(7)), "b": other}
        self.gives(schema, ("recompose", "a", "b"), {"a": described(wide_columns(7) + [("x", "int", False)])})

    def test_errors(self):
        schema = {"a": FREE, "b": self.other}
        self.fails(schema, ("recompose", "nope", "b"), "missing")
        self.fails(schema, ("recompose", "a", "nope"), "missing")
        self.fails(schema, ("recompose", "a", "a"), "columns")
        self.fails({"a": described([KEY])}, ("recompose", "a", "a"), "columns")
        self.fails({"a": FREE, "b": described([("t", "text", False)])}, ("recompose", "a", "b"), "columns")
        for name in ("id", "word"):
            other = described([("nr", "int", False), (name, "int", True)])
            self.fails({"a": FREE, "b": other}, ("recompose", "a", "b"), "columns")
        self.fails({"a": described(wide_columns(7)), "b": self.other}, ("recompose", "a", "b"), "columns")
        for used in (
            described(self.other["columns"], [()]), described(self.other["columns"], (), ["x"]),
            described(self.other["columns"], (), (), [("x", "a")]),
        ):
            self.fails({"a": FREE, "b": used}, ("recompose", "a", "b"), "used")
        self.fails({**schema, "c": referring("b")}, ("recompose", "a", "b"), "referenced")
        self.fails({"a": referring("b", TOWN), "b": self.other}, ("recompose", "a", "b"), "referenced")

    def test_order_of_errors(self):
        used = described([("nr", "int", False), ("word", "text", True)], [()])
        schema = {"a": FREE, "b": used, "c": referring("b")}
        self.fails(schema, ("recompose", "b", "nope"), "missing")
        self.fails(schema, ("recompose", "nope", "b"), "missing")
        self.fails(schema, ("recompose", "a", "b"), "columns")
        schema = {"a": described([KEY, NAME]), "b": used, "c": referring("b")}
        self.fails(schema, ("recompose", "a", "b"), "used")


class PartitionTest(StepCase):
    def test_right_schema(self):
        for condition in (YOUNG, (), ((),), ((("name", "null", None), ("word", "=", "x")), (("id", ">", 5),))):
            self.changes(SCHEMA, ("partition", "person", "other", condition), {"other": PERSON})

    def test_both_descriptions_share_nothing(self):
        step = ("partition", "person", "other", YOUNG)
        result = target_schema(SCHEMA, step)
        for part in ("columns", "checks", "uniques", "references"):
            self.assertIsNot(result["person"][part], result["other"][part])
        self.assertIsNot(result["person"], result["other"])

    def test_the_sixth_table(self):
        self.changes(with_tables(SCHEMA, 5), ("partition", "person", "other", YOUNG), {"other": PERSON})

    def test_errors(self):
        self.fails(SCHEMA, ("partition", "nope", "other", YOUNG), "missing")
        for condition in BAD_CONDITIONS:
            self.fails(SCHEMA, ("partition", "person", "other", condition), "condition")
        self.fails(SCHEMA, ("partition", "place", "other", ((),)), "referenced")
        for name in BAD_NAMES:
            self.fails(SCHEMA, ("partition", "person", name, YOUNG), "name")
        self.fails(SCHEMA, ("partition", "person", "person", YOUNG), "taken")
        self.fails(SCHEMA, ("partition", "person", "place", YOUNG), "taken")
        self.fails(with_tables(SCHEMA, 6), ("partition", "person", "other", YOUNG), "limit")

    def test_order_of_errors(self):
        full = with_tables(SCHEMA, 6)
        bad = BAD_CONDITIONS[0]
        self.fails(full, ("partition", "nope", "A", bad), "missing")
        self.fails(full, ("partition", "place", "A", bad), "condition")
        self.fails(full, ("partition", "place", "A", ((),)), "referenced")
        self.fails(full, ("partition", "place", "person", ((),)), "referenced")
        self.fails(full, ("partition", "person", "A", YOUNG), "name")
        self.fails(full, ("partition", "person", "place", YOUNG), "taken")


class UnionTest(StepCase):
    schema = {**SCHEMA, "other": PERSON}

    def test_right_schema(self):
        for condition in (YOUNG, (), ((),)):
            self.gives(self.schema, ("union", "person", "other", condition), SCHEMA)
            self.gives(self.schema, ("union", "other", "person", condition), {"other": PERSON, "place": PLACE})

    def test_errors(self):
        self.fails(self.schema, ("union", "nope", "other", YOUNG), "missing")
        self.fails(self.schema, ("union", "person", "nope", YOUNG), "missing")
        self.fails(self.schema, ("union", "person", "person", YOUNG), "columns")
        self.fails(self.schema, ("union", "person", "place", YOUNG), "columns")
        for condition in BAD_CONDITIONS:
            self.fails(self.schema, ("union", "person", "other", condition), "condition")
        for table in ("person", "other"):
            schema = {**self.schema, "c": referring(table)}
            self.fails(schema, ("union", "person", "other", YOUNG), "referenced")

    def test_descriptions_that_are_not_equal(self):
        for other in (
            {**PERSON, "columns": COLUMNS + [("more", "int", True)]},
            {**PERSON, "columns": [KEY, NAME, AGE, TOWN, ("words", "text", False)]},
            {**PERSON, "columns": [KEY, NAME, AGE, TOWN, ("word", "text", True)]},
            {**PERSON, "columns": [KEY, NAME, AGE, TOWN, ("word", "int", False)]},
            {**PERSON, "columns": [KEY, NAME, AGE, WORD, TOWN]},
            {**PERSON, "checks": []}, {**PERSON, "checks": [only("age", ">", 0)]},
            {**PERSON, "uniques": []}, {**PERSON, "uniques": ["word"]},
            {**PERSON, "references": []}, {**PERSON, "references": [("age", "place")]},
        ):
            self.fails({**SCHEMA, "other": other}, ("union", "person", "other", YOUNG), "columns")
            self.fails({**SCHEMA, "other": other}, ("union", "other", "person", YOUNG), "columns")

    def test_order_of_errors(self):
        bad = BAD_CONDITIONS[0]
        schema = {**self.schema, "c": referring("person")}
        self.fails(schema, ("union", "nope", "nope", bad), "missing")
        self.fails(schema, ("union", "person", "person", bad), "columns")
        self.fails(schema, ("union", "person", "place", bad), "columns")
        self.fails(schema, ("union", "person", "other", bad), "condition")


class MoveTest(StepCase):
    schema = {**SCHEMA, "other": described(COLUMNS, (), ["age"])}

    def test_the_schema_does_not_change(self):
        for condition in (YOUNG, (), ((),)):
            self.changes(self.schema, ("move", "person", "other", condition), {})
            self.changes(self.schema, ("move", "other", "person", condition), {})

    def test_the_other_table_may_be_referenced(self):
        self.changes({**self.schema, "c": referring("other")}, ("move", "person", "other", YOUNG), {})
        schema = {"person": described([KEY, AGE], (), (), [("age", "other")]), "other": described([KEY, AGE])}
        self.changes(schema, ("move", "person", "other", YOUNG), {})

    def test_errors(self):
        self.fails(self.schema, ("move", "nope", "other", YOUNG), "missing")
        self.fails(self.schema, ("move", "person", "nope", YOUNG), "missing")
        self.fails(self.schema, ("move", "person", "person", YOUNG), "columns")
        self.fails(self.schema, ("move", "person", "place", YOUNG), "columns")
        for condition in BAD_CONDITIONS:
            self.fails(self.schema, ("move", "person", "other", condition), "condition")
        self.fails({**self.schema, "c": referring("person")}, ("move", "person", "other", YOUNG), "referenced")

    def test_lists_of_columns_that_are_not_equal(self):
        for columns in (
            COLUMNS + [("more", "int", True)], COLUMNS[:4], [KEY, NAME, AGE, TOWN, ("words", "text", False)],
            [KEY, NAME, AGE, TOWN, ("word", "text", True)], [KEY, NAME, AGE, WORD, TOWN],
            [("nr", "int", False)] + COLUMNS[1:],
        ):
            schema = {**SCHEMA, "other": described(columns)}
            self.fails(schema, ("move", "person", "other", YOUNG), "columns")
            self.fails(schema, ("move", "other", "person", ((),)), "columns")

    def test_order_of_errors(self):
        bad = BAD_CONDITIONS[0]
        schema = {**self.schema, "c": referring("person")}
        self.fails(schema, ("move", "nope", "nope", bad), "missing")
        self.fails(schema, ("move", "person", "person", bad), "columns")
        self.fails(schema, ("move", "person", "place", bad), "columns")
        self.fails(schema, ("move", "person", "other", bad), "condition")


class ExtractTest(StepCase):
    def test_right_schema(self):
        table, other = described([KEY, AGE, TOWN]), described([("age", "int", False), NAME, WORD])
        for columns in (("name", "word"), ("word", "name")):
            self.gives({"a": FREE}, ("extract", "a", "age", columns, "b"), {"a": table, "b": other})

    def test_the_key_column_is_not_nullable(self):
        for column in (NAME, AGE, TOWN):
            step = ("extract", "a", column[0], ("word",), "b")
            other = described([(column[0], column[1], False), WORD])
            self.gives({"a": FREE}, step, {"a": described([KEY, NAME, AGE, TOWN]), "b": other})

    def test_the_column_may_be_used_and_the_table_referenced(self):
        schema = {**SCHEMA, "c": referring("person")}
        person = {**PERSON, "columns": [KEY, NAME, AGE, TOWN]}
        for column in (NAME, AGE, TOWN):
            other = described([(column[0], column[1], False), WORD])
            step = ("extract", "person", column[0], ("word",), "b")
            self.changes(schema, step, {"person": person, "b": other})

    def test_the_sixth_table(self):
        tables = {"a": described([KEY, NAME, AGE, TOWN]), "b": described([("age", "int", False), WORD])}
        self.changes(with_tables({"a": FREE}, 5), ("extract", "a", "age", ("word",), "b"), tables)

    def test_errors(self):
        self.fails(SCHEMA, ("extract", "nope", "age", ("word",), "b"), "missing")
        self.fails(SCHEMA, ("extract", "person", "nope", ("word",), "b"), "missing")
        self.fails(SCHEMA, ("extract", "person", "age", ("nope",), "b"), "missing")
        self.fails(SCHEMA, ("extract", "person", "age", ("word", "nope"), "b"), "missing")
        self.fails(SCHEMA, ("extract", "person", "id", ("word",), "b"), "key")
        self.fails(SCHEMA, ("extract", "person", "age", ("id",), "b"), "key")
        self.fails(SCHEMA, ("extract", "person", "age", ("word", "id"), "b"), "key")
        self.fails(SCHEMA, ("extract", "person", "age", (), "b"), "columns")
        self.fails(SCHEMA, ("extract", "person", "age", ("word", "word"), "b"), "columns")
        self.fails(SCHEMA, ("extract", "person", "word", ("word",), "b"), "columns")
        self.fails({"a": FREE}, ("extract", "a", "age", ("word", "age"), "b"), "columns")
        for column in ("name", "town"):
            self.fails(SCHEMA, ("extract", "person", "age", (column,), "b"), "used")
            self.fails(SCHEMA, ("extract", "person", "age", ("word", column), "b"), "used")
        for name in BAD_NAMES:
            self.fails(SCHEMA, ("extract", "person", "age", ("word",), name), "name")
        self.fails(SCHEMA, ("extract", "person", "age", ("word",), "place"), "taken")
        self.fails(SCHEMA, ("extract", "person", "age", ("word",), "person"), "taken")
        self.fails(with_tables(SCHEMA, 6), ("extract", "person", "age", ("word",), "b"), "limit")

    def test_order_of_errors(self):
        full = with_tables({**SCHEMA, "person": {**PERSON, "checks": [only("id", ">", 0)]}}, 6)
        self.fails(full, ("extract", "nope", "id", (), "A"), "missing")
        self.fails(full, ("extract", "person", "id", ("nope",), "A"), "missing")
        self.fails(full, ("extract", "person", "id", (), "A"), "key")
        self.fails(full, ("extract", "person", "age", ("name", "name", "id"), "A"), "key")
        self.fails(full, ("extract", "person", "age", ("name", "name"), "A"), "columns")
        self.fails(full, ("extract", "person", "name", ("name",), "A"), "columns")
        self.fails(full, ("extract", "person", "age", ("name",), "A"), "used")
        self.fails(full, ("extract", "person", "age", ("word",), "A"), "name")
        self.fails(full, ("extract", "person", "age", ("word",), "place"), "taken")


class InlineTest(StepCase):
    other = described([("nr", "int", False), ("x", "int", False), ("y", "text", True)])

    def test_right_schema(self):
        expected = {"a": described(COLUMNS + self.other["columns"][1:])}
        for column in ("age", "town"):
            self.gives({"a": FREE, "b": self.other}, ("inline", "a", column, "b"), expected)
        other = described([("nr", "text", False), ("x", "int", False)])
        expected = {"a": described(COLUMNS + [("x", "int", False)])}
        for column in ("name", "word"):
            self.gives({"a": FREE, "b": other}, ("inline", "a", column, "b"), expected)

    def test_limits_and_references_of_the_table_stay(self):
        schema = {**SCHEMA, "b": self.other, "c": referring("person")}
        tables = {"person": {**PERSON, "columns": COLUMNS + self.other["columns"][1:]}, "b": None}
        for column in ("age", "town"):
            self.changes(schema, ("inline", "person", column, "b"), tables)

    def test_the_key_column_of_the_other_table_may_have_any_name(self):
        for name in ("id", "age", "name"):
            schema = {"a": described([KEY, NAME, AGE]), "b": described([(name, "int", False), TOWN])}
            self.gives(schema, ("inline", "a", "age", "b"), {"a": described([KEY, NAME, AGE, TOWN])})

    def test_a_table_with_nothing_but_a_key(self):
        self.gives({"a": FREE, "b": described([KEY])}, ("inline", "a", "age", "b"), {"a": FREE})

    def test_eight_columns(self):
        other = described([("nr", "int", False), ("x", "int", False)])
        schema = {"a": described(wide_columns(7)), "b": other}
        self.gives(schema, ("inline", "a", "c3", "b"), {"a": described(wide_columns(7) + [("x", "int", False)])})

    def test_errors(self):
        schema = {"a": FREE, "b": self.other}
        self.fails(schema, ("inline", "nope", "age", "b"), "missing")
        self.fails(schema, ("inline", "a", "age", "nope"), "missing")
        self.fails(schema, ("inline", "a", "nope", "b"), "missing")
        self.fails(schema, ("inline", "a", "x", "b"), "missing")
        self.fails(schema, ("inline", "a", "id", "b"), "key")
        self.fails(schema, ("inline", "a", "age", "a"), "columns")
        self.fails({"a": described([KEY, AGE])}, ("inline", "a", "age", "a"), "columns")
        self.fails(schema, ("inline", "a", "word", "b"), "columns")
        text = described([("nr", "text", False), ("x", "int", False)])
        self.fails({"a": FREE, "b": text}, ("inline", "a", "age", "b"), "columns")
        for name in ("id", "age", "word"):
            other = described([("nr", "int", False), (name, "int", True)])
            self.fails({"a": FREE, "b": other}, ("inline", "a", "age", "b"), "columns")
        self.fails({"a": described(wide_columns(7)), "b": self.other}, ("inline", "a", "c1", "b"), "columns")
        for used in (
            described(self.other["columns"], [()]), described(self.other["columns"], (), ["x"]),
            described(self.other["columns"], (), (), [("x", "a")]),
        ):
            self.fails({"a": FREE, "b": used}, ("inline", "a", "age", "b"), "used")
        self.fails({**schema, "c": referring("b")}, ("inline", "a", "age", "b"), "referenced")
        self.fails({"a": referring("b"), "b": self.other}, ("inline", "a", "age", "b"), "referenced")

    def test_order_of_errors(self):
        used = described([("nr", "int", False), ("word", "text", True)], [()])
        schema = {"a": FREE, "b": used, "c": referring("b")}
        self.fails(schema, ("inline", "nope", "id", "b"), "missing")
        self.fails(schema, ("inline", "a", "id", "nope"), "missing")
        self.fails(schema, ("inline", "a", "nope", "a"), "missing")
        self.fails(schema, ("inline", "a", "id", "a"), "key")
        self.fails(schema, ("inline", "a", "id", "b"), "key")
        self.fails(schema, ("inline", "a", "age", "b"), "columns")
        schema = {"a": described([KEY, AGE]), "b": used, "c": referring("b")}
        self.fails(schema, ("inline", "a", "age", "b"), "used")


if __name__ == "__main__":
    unittest.main()
