"""Points 10 and 11: names, columns, table descriptions, valid schemas."""

import copy
import unittest

from lenstree.errors import SchemaError
from lenstree.schema import check_schema, column_names, copy_schema, is_referenced, is_used
from tests.support import called, containers, described, only, raised

KEY = ("id", "int", False)
AGE = ("age", "int", True)
NOTE = ("note", "text", True)


def wide(count):
    """Return a list of `count` columns, the first one the key column."""
    return [KEY] + [(f"c{number}", "int", True) for number in range(1, count)]


class CheckSchemaTest(unittest.TestCase):
    def valid(self, schema):
        self.assertIsNone(called(self, check_schema, schema))

    def fails(self, schema, code, table="person"):
        error = raised(self, SchemaError, check_schema, schema)
        self.assertEqual((error.code, error.table), (code, table))

    def person(self, code, columns, checks=(), uniques=(), references=()):
        """See that a schema of one table with this description fails with the code, or is valid if it is ""."""
        schema = {"person": described(columns, checks, uniques, references)}
        if code == "":
            self.valid(schema)
        else:
            self.fails(schema, code)


class NumberOfTablesTest(CheckSchemaTest):
    def test_up_to_six_tables(self):
        for count in range(7):
            self.valid({f"t{number}": described([KEY]) for number in range(count)})

    def test_seven_tables(self):
        for count in (7, 8):
            self.fails({f"t{number}": described([KEY]) for number in range(count)}, "tables", "")

    def test_too_many_tables_before_everything_else(self):
        self.fails({f"T{number}": described([]) for number in range(7)}, "tables", "")


class NameTest(CheckSchemaTest):
    good = ("a", "z", "a0", "a9", "a_", "a_b", "abcdefghijklmnopqrst", "z" * 20, "the")
    bad = (
        "", "A", "aB", "0a", "_a", "a b", "a-b", "a.b", "a%", "a\n", "\u00e9", "a\u00e9", "a\u0663", "x" * 21, "x" * 40,
        " a", "a ", "{", "`", "a{", "a`", "a@", "a[", "a/", "a:", "9", "_",
    )

    def test_names_of_tables(self):
        for name in self.good:
            self.valid({name: described([KEY])})
        for name in self.bad:
            self.fails({name: described([KEY])}, "name", name)

    def test_names_of_columns(self):
        for name in self.good:
            self.valid({"person": described([(name, "int", False)])})
            self.valid({"person": described([KEY, (name, "text", True)])})
        for name in self.bad:
            self.fails({"person": described([(name, "int", False)])}, "name")
            self.fails({"person": described([KEY, AGE, (name, "text", True)])}, "name")

    def test_letters_and_digits(self):
        self.valid({"person": described([("abcdefghijklm", "int", False), ("nopqrstuvwxyz", "int", False)])})
        self.valid({"person": described([("a_0123456789", "int", False)])})

    def test_before_the_other_codes(self):
        self.fails({"Person": described([])}, "name", "Person")
        columns = [("id", "real", True), ("Id", "int", True)]
        self.person("name", columns, [only("x", "=", 1)] * 5, ["id"], [("id", "person")])


class ColumnsTest(CheckSchemaTest):
    def test_number_of_columns(self):
        for count in range(1, 9):
            self.person("", wide(count))
        self.person("columns", [])
        self.person("columns", wide(9))
        self.person("columns", wide(10))

    def test_two_columns_of_one_name(self):
        self.person("columns", [KEY, KEY])
        self.person("columns", [KEY, AGE, NOTE, ("age", "text", False)])
        self.person("columns", [KEY, AGE, ("id", "text", True)])

    def test_kinds(self):
        self.person("", [("id", "text", False), ("a", "int", False), ("b", "int", True), ("c", "text", False), NOTE])
        for kind in ("", "Int", "string", "real", "ints"):
            self.person("columns", [("id", kind, False)])
            self.person("columns", [KEY, AGE, ("b", kind, True)])

    def test_key_column_is_not_nullable(self):
        self.person("columns", [("id", "int", True)])
        self.person("columns", [("id", "text", True), AGE])

    def test_before_the_other_codes(self):
        self.person("columns", [KEY, KEY], [only("x", "=", 1)], ["id"], [("id", "person")])


class ChecksTest(CheckSchemaTest):
    def test_conditions_that_fit(self):
        check = ((("age", ">=", 0), ("note", "given", None)), (("id", "=", 1),))
        self.person("", [KEY, AGE, NOTE], [check, (), ((),), only("age", "null", None)])

    def test_number_of_checks(self):
        check = only("age", ">", 0)
        self.person("", [KEY, AGE], [check] * 4)
        self.person("columns", [], [check] * 5)
        self.person("checks", [KEY, AGE], [check] * 5)
        self.person("checks", [KEY, AGE], [only("age", ">", number) for number in range(5)])

    def test_equal_checks_are_allowed(self):
        self.person("", [KEY, AGE], [only("age", ">", 0), only("age", ">", 0)])

    def test_conditions_that_do_not_fit(self):
        good = only("age", ">", 0)
        for bad in (only("size", ">", 0), only("age", ">", "0"), only("age", "=", True), only("note", "=", "x" * 31)):
            for place in range(3):
                checks = [good, good, good]
                checks[place] = bad
                self.person("checks", [KEY, AGE, NOTE], checks)

    def test_long_conditions_are_no_fault(self):
        self.person("", [KEY, AGE], [((("age", ">", 0),) * 5,) * 5])

    def test_before_the_other_codes(self):
        self.person("checks", [KEY, AGE], [only("x", "=", 1)], ["id"], [("id", "person")])


class UniquesTest(CheckSchemaTest):
    def test_columns_of_the_table(self):
        self.person("", [KEY, AGE, NOTE], (), ["note", "age"])
        self.person("", [KEY, AGE, NOTE], (), ["note"])

    def test_unknown_column(self):
        self.person("uniques", [KEY, AGE], (), ["nope"])
        self.person("uniques", [KEY, AGE], (), ["age", "nope"])
        self.person("uniques", [KEY, AGE], (), ["person"])

    def test_key_column(self):
        self.person("uniques", [KEY, AGE], (), ["id"])
        self.person("uniques", [KEY, AGE], (), ["age", "id"])

    def test_duplicates(self):
        self.person("uniques", [KEY, AGE, NOTE], (), ["age", "age"])
        self.person("uniques", [KEY, AGE, NOTE], (), ["age", "note", "age"])

    def test_number_of_uniques(self):
        self.person("", wide(8), (), ["c1", "c2", "c3", "c4"])
        self.person("uniques", wide(8), (), ["c1", "c2", "c3", "c4", "c5"])

    def test_before_the_other_codes(self):
        self.person("uniques", [KEY, AGE], (), ["id"], [("id", "person")])


class ReferencesTest(CheckSchemaTest):
    def town(self, references, columns=(KEY, AGE, NOTE), others=None):
        schema = {
            "person": described(columns, (), (), references), "town": described([KEY]),
            "word": described([("w", "text", False)]),
        }
        schema.update(others or {})
        return schema

    def test_references_that_are_right(self):
        self.valid(self.town([("age", "town")]))
        self.valid(self.town([("note", "word")]))
        self.valid(self.town([("age", "town"), ("note", "word")]))

    def test_one_column_may_lead_to_several_tables(self):
        self.valid(self.town([("age", "town"), ("age", "land")], others={"land": described([KEY])}))

    def test_several_columns_may_lead_to_one_table(self):
        columns = (KEY, AGE, ("other", "int", False))
        self.valid(self.town([("age", "town"), ("other", "town")], columns))

    def test_tables_may_lead_to_each_other(self):
        first, second = described([KEY, AGE], (), (), [("age", "b")]), described([KEY, AGE], (), (), [("age", "a")])
        self.valid({"a": first, "b": second})

    def test_unknown_column(self):
        self.fails(self.town([("nope", "town")]), "references")
        self.fails(self.town([("age", "town"), ("town", "town")]), "references")

    def test_key_column(self):
        self.fails(self.town([("id", "town")]), "references")

    def test_unknown_table(self):
        self.fails(self.town([("age", "nope")]), "references")
        self.fails(self.town([("age", "age")]), "references")

    def test_the_table_itself(self):
        self.fails(self.town([("age", "person")]), "references")

    def test_other_kind(self):
        self.fails(self.town([("age", "word")]), "references")
        self.fails(self.town([("note", "town")]), "references")

    def test_kind_of_the_first_column_counts(self):
        other = described([("name", "text", False), ("size", "int", False)])
        self.fails(self.town([("age", "land")], others={"land": other}), "references")
        self.valid(self.town([("note", "land")], others={"land": other}))

    def test_table_without_columns(self):
        self.fails(self.town([("age", "zoo")], others={"zoo": described([])}), "references")
        self.fails(self.town([], others={"zoo": described([])}), "columns", "zoo")
        self.fails(self.town([("age", "land")], others={"land": described([])}), "columns", "land")

    def test_duplicates(self):
        self.fails(self.town([("age", "town"), ("age", "town")]), "references")
        self.fails(self.town([("age", "town"), ("note", "word"), ("age", "town")]), "references")

    def test_number_of_references(self):
        references = [(f"c{number}", "town") for number in range(1, 6)]
        self.valid(self.town(references[:4], wide(8)))
        self.fails(self.town(references, wide(8)), "references")

    def test_each_reference_is_looked_at(self):
        good = [(f"c{number}", "town") for number in range(1, 5)]
        for place in range(4):
            references = list(good)
            references[place] = ("nope", "town")
            self.fails(self.town(references, wide(8)), "references")


class OrderTest(CheckSchemaTest):
    def test_first_table_in_ascending_order(self):
        first, second = described([KEY], (), ["id"]), described([])
        self.fails({"b": second, "a": first}, "uniques", "a")
        self.fails({"a": first, "b": second}, "uniques", "a")
        self.fails({"b": first, "a": second}, "columns", "a")
        self.fails({"c": first, "a": described([KEY]), "b": second}, "columns", "b")
        self.fails({"a": described([KEY]), "c": second, "b": first}, "uniques", "b")

    def test_order_is_that_of_strings(self):
        self.fails({"t9": described([]), "t10": described([KEY], (), ["id"])}, "uniques", "t10")
        self.fails({"b": described([]), "Z": described([KEY])}, "name", "Z")

    def test_first_code_of_a_table(self):
        bad = {
            "columns": [("Id", "real", True)], "checks": [only("x", "=", 1)], "uniques": ["id"],
            "references": [("id", "person")],
        }
        columns = {
            "name": [("Id", "real", True)], "columns": [("id", "real", True)], "checks": [KEY], "uniques": [KEY],
            "references": [KEY],
        }
        for place, code in enumerate(["name", "columns", "checks", "uniques", "references"]):
            description = copy.deepcopy(bad)
            description["columns"] = columns[code]
            if place > 2:
                description["checks"] = []
            if place > 3:
                description["uniques"] = []
            self.fails({"person": description}, code)

    def test_the_empty_schema(self):
        self.valid({})


class CopySchemaTest(unittest.TestCase):
    def setUp(self):
        check = ((("age", ">", 0),),)
        self.schema = {
            "person": described([KEY, AGE], [check], ["age"], [("age", "town")]),
            "town": described([KEY, NOTE], (), ["note"]),
        }

    def test_equal_and_apart(self):
        result = called(self, copy_schema, self.schema)
        self.assertEqual(result, self.schema)
        self.assertEqual(len(containers(result)), 11)
        self.assertEqual(copy_schema({}), {})

    def change_everywhere(self, schema):
        for table in list(schema):
            schema[table]["columns"].append(("more", "int", True))
            schema[table]["checks"].append(())
            schema[table]["uniques"].append("more")
            schema[table]["references"].append(("more", "x"))
            schema[table]["new"] = 1
        schema["new"] = described([KEY])

    def test_a_change_of_the_copy_leaves_the_first_one(self):
        before = copy.deepcopy(self.schema)
        self.change_everywhere(copy_schema(self.schema))
        self.assertEqual(self.schema, before)

    def test_a_change_of_the_first_one_leaves_the_copy(self):
        before = copy.deepcopy(self.schema)
        result = copy_schema(self.schema)
        self.change_everywhere(self.schema)
        self.assertEqual(result, before)


class QuestionsTest(unittest.TestCase):
    def test_column_names(self):
        description = described([KEY, NOTE, AGE])
        result = called(self, column_names, description)
        self.assertEqual(result, ["id", "note", "age"])
        self.assertIsNot(column_names(description), column_names(description))

    def test_is_used(self):
        check = ((("age", ">", 0), ("a", "=", 1)), (("b", "null", None),))
        columns = [KEY, AGE, NOTE, ("a", "int", True), ("b", "int", True), ("town", "int", True), ("free", "int", True)]
        description = described(columns, [(), check], ["note"], [("town", "free")])
        for name in ("age", "a", "b", "note", "town"):
            self.assertIs(called(self, is_used, description, name), True, name)
        for name in ("id", "free"):
            self.assertIs(called(self, is_used, description, name), False, name)

    def test_each_way_of_use_alone(self):
        columns = [KEY, AGE, NOTE]
        self.assertIs(is_used(described(columns, [((),), only("age", "=", 1)]), "age"), True)
        self.assertIs(is_used(described(columns, (), ["note", "age"]), "age"), True)
        self.assertIs(is_used(described(columns, (), (), [("note", "word"), ("age", "town")]), "age"), True)
        self.assertIs(is_used(described(columns), "age"), False)

    def test_is_referenced(self):
        schema = {
            "person": described([KEY, AGE, NOTE], (), (), [("note", "word"), ("age", "town")]),
            "town": described([KEY]),
            "word": described([("w", "text", False)]),
            "age": described([KEY]),
        }
        for name, result in (("town", True), ("word", True), ("person", False), ("age", False)):
            self.assertIs(called(self, is_referenced, schema, name), result, name)
        self.assertIs(is_referenced({}, "town"), False)


if __name__ == "__main__":
    unittest.main()
