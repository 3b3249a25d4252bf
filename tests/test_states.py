"""Points 12 and 13: states of a schema, their rows and their faults."""

import copy
import unittest

from lenstree.states import copy_state, empty_state, first_fault, fits_schema, rows
from tests.support import called, containers, described, only

KEY = ("id", "int", False)
SCHEMA = {
    "person": described([KEY, ("name", "text", True), ("age", "int", False)]),
    "town": described([("name", "text", False), ("size", "int", True)]),
    "mark": described([KEY]),
}
STATE = {"person": {1: ("al", 3), 2: (None, 0)}, "town": {"ulm": (5,), "": (None,)}, "mark": {-7: ()}}


class EmptyStateTest(unittest.TestCase):
    def test_no_rows(self):
        result = called(self, empty_state, SCHEMA)
        self.assertEqual(result, {"person": {}, "town": {}, "mark": {}})
        self.assertEqual(len(containers(result)), 4)
        self.assertEqual(empty_state({}), {})

    def test_new_at_each_call(self):
        empty_state(SCHEMA)["person"][1] = ("al", 3)
        self.assertEqual(empty_state(SCHEMA)["person"], {})


class CopyStateTest(unittest.TestCase):
    def test_equal_and_apart(self):
        state = copy.deepcopy(STATE)
        result = called(self, copy_state, state)
        self.assertEqual(result, STATE)
        result["person"][3] = ("x", 1)
        del result["town"]
        self.assertEqual(state, STATE)
        again = copy_state(state)
        state["person"][3] = ("x", 1)
        del state["town"]
        self.assertEqual(again, STATE)
        self.assertEqual(copy_state({}), {})


class FitsSchemaTest(unittest.TestCase):
    def check(self, result, table, key, rest):
        """See whether the state with this row more is one of the schema."""
        state = copy.deepcopy(STATE)
        state[table][key] = rest
        self.assertIs(called(self, fits_schema, SCHEMA, state), result, (table, key, rest))

    def test_states(self):
        self.assertIs(called(self, fits_schema, SCHEMA, STATE), True)
        self.assertIs(fits_schema(SCHEMA, empty_state(SCHEMA)), True)
        self.assertIs(fits_schema({}, {}), True)

    def test_a_table_less(self):
        for table in SCHEMA:
            state = copy.deepcopy(STATE)
            del state[table]
            self.assertIs(fits_schema(SCHEMA, state), False, table)
        self.assertIs(fits_schema(SCHEMA, {}), False)

    def test_a_table_more(self):
        state = copy.deepcopy(STATE)
        state["more"] = {}
        self.assertIs(fits_schema(SCHEMA, state), False)
        self.assertIs(fits_schema({}, {"more": {}}), False)

    def test_another_table(self):
        state = copy.deepcopy(STATE)
        state["marks"] = state.pop("mark")
        self.assertIs(fits_schema(SCHEMA, state), False)

    def test_kinds(self):
        self.check(True, "person", 3, ("bo", 4))
        self.check(False, "person", 3, (4, 4))
        self.check(False, "person", 3, ("bo", "4"))
        self.check(False, "person", 3, (4, "bo"))
        self.check(False, "town", "rom", ("5",))

    def test_null(self):
        self.check(True, "person", 3, (None, 4))
        self.check(True, "town", "rom", (None,))
        self.check(False, "person", 3, ("bo", None))
        self.check(False, "person", 3, (None, None))

    def test_keys(self):
        self.check(True, "mark", 0, ())
        self.check(False, "mark", "0", ())
        self.check(False, "mark", None, ())
        self.check(False, "town", 0, (1,))
        self.check(False, "town", None, (1,))
        self.check(False, "person", "3", ("bo", 4))

    def test_true_and_false(self):
        for thing in (True, False):
            self.check(False, "person", 3, ("bo", thing))
            self.check(False, "person", 3, (thing, 4))
            self.check(False, "town", "rom", (thing,))
            self.check(False, "mark", thing, ())

    def test_bounds(self):
        self.check(True, "person", 999999999, ("x" * 30, -999999999))
        self.check(False, "person", 3, ("bo", 1000000000))
        self.check(False, "person", 3, ("bo", -1000000000))
        self.check(False, "person", 3, ("x" * 31, 1))
        self.check(False, "person", 3, ("50%", 1))
        self.check(False, "person", 3, ("a\n", 1))
        self.check(False, "mark", 1000000000, ())
        self.check(False, "mark", -1000000000, ())
        self.check(False, "town", "x" * 31, (1,))
        self.check(False, "town", "%", (1,))

    def test_length_of_the_rest(self):
        self.check(False, "person", 3, ("bo",))
        self.check(False, "person", 3, ())
        self.check(False, "person", 3, ("bo", 4, 5))
        self.check(False, "person", 3, ("bo", 4, None))
        self.check(False, "mark", 3, (1,))
        self.check(False, "mark", 3, (None,))
        self.check(False, "town", "rom", ())

    def test_each_row_is_looked_at(self):
        for bad in range(5):
            people = {key: ("x", 4 if key != bad else None) for key in range(5)}
            state = {"person": people, "town": {}, "mark": {}}
            self.assertIs(fits_schema(SCHEMA, state), False, bad)

    def test_limits_and_faults_are_not_looked_at(self):
        columns = [KEY, ("other", "int", True)]
        schema = {"a": described(columns, [()], ["other"], [("other", "b")]), "b": described([KEY])}
        self.assertIs(fits_schema(schema, {"a": {key: (7,) for key in range(70)}, "b": {}}), True)


class RowsTest(unittest.TestCase):
    def test_example_of_the_document(self):
        state = {"person": {2: ("bo",), 1: ("al",)}}
        self.assertEqual(called(self, rows, state, "person"), [(1, "al"), (2, "bo")])

    def test_integers_ascend_by_size(self):
        state = {"t": {key: (key, None) for key in (10, 9, -1, 0, -10, 100, -9)}, "u": {3: ()}}
        expected = [(key, key, None) for key in (-10, -9, -1, 0, 9, 10, 100)]
        self.assertEqual(called(self, rows, state, "t"), expected)

    def test_texts_ascend_as_strings(self):
        state = {"t": {key: () for key in ("b", "", "a", "10", "9", "B", "aa", " ", "~")}}
        expected = [(key,) for key in ("", " ", "10", "9", "B", "a", "aa", "b", "~")]
        self.assertEqual(called(self, rows, state, "t"), expected)

    def test_no_rows(self):
        self.assertEqual(rows({"t": {}, "u": {1: ()}}, "t"), [])


class FaultCase(unittest.TestCase):
    def found(self, schema, state):
        return called(self, first_fault, schema, state)


class SoundTest(FaultCase):
    def test_sound(self):
        self.assertIsNone(self.found(SCHEMA, STATE))
        self.assertIsNone(self.found({}, {}))
        self.assertIsNone(self.found(SCHEMA, empty_state(SCHEMA)))


class FullTest(FaultCase):
    def test_sixty_rows(self):
        for count in (59, 60):
            self.assertIsNone(self.found({"a": described([KEY])}, {"a": {key: () for key in range(count)}}))

    def test_sixty_one_rows(self):
        fault = self.found({"a": described([KEY])}, {"a": {key: () for key in range(100, 161)}})
        self.assertEqual(fault, ("full", "a", 160))

    def test_the_key_is_that_of_the_sixty_first_row(self):
        keys = list(range(0, 160, 2))
        keys.reverse()
        self.assertEqual(self.found({"a": described([KEY])}, {"a": {key: () for key in keys}}), ("full", "a", 120))
        texts = {str(key): () for key in range(10, 80)}
        self.assertEqual(self.found({"a": described([("t", "text", False)])}, {"a": texts}), ("full", "a", "70"))


class CheckTest(FaultCase):
    columns = [KEY, ("age", "int", True), ("name", "text", True)]

    def test_least_key_for_which_a_check_does_not_hold(self):
        schema = {"a": described(self.columns, [only("age", ">=", 0)])}
        state = {"a": {9: (-1, None), 3: (-5, None), 1: (0, None), 2: (7, "x")}}
        self.assertEqual(self.found(schema, state), ("check", "a", 3))

    def test_null_does_not_hold(self):
        schema = {"a": described(self.columns, [only("age", ">=", 0)])}
        self.assertEqual(self.found(schema, {"a": {1: (0, None), 2: (None, None)}}), ("check", "a", 2))

    def test_all_checks_count(self):
        checks = [only("age", ">=", 0), ((),), only("name", "given", None), only("id", "<", 5)]
        schema = {"a": described(self.columns, checks)}
        self.assertIsNone(self.found(schema, {"a": {1: (0, "x")}}))
        self.assertEqual(self.found(schema, {"a": {1: (0, "x"), 2: (-1, "x")}}), ("check", "a", 2))
        self.assertEqual(self.found(schema, {"a": {1: (0, "x"), 2: (1, None)}}), ("check", "a", 2))
        self.assertEqual(self.found(schema, {"a": {1: (0, "x"), 5: (1, "x")}}), ("check", "a", 5))

    def test_least_key_of_all_checks(self):
        schema = {"a": described(self.columns, [only("age", ">=", 0), only("name", "given", None)])}
        self.assertEqual(self.found(schema, {"a": {3: (-1, "x"), 2: (1, None)}}), ("check", "a", 2))
        self.assertEqual(self.found(schema, {"a": {2: (-1, "x"), 3: (1, None)}}), ("check", "a", 2))

    def test_a_check_that_never_holds(self):
        schema = {"a": described(self.columns, [()])}
        self.assertIsNone(self.found(schema, {"a": {}}))
        self.assertEqual(self.found(schema, {"a": {4: (1, "x")}}), ("check", "a", 4))


class UniqueTest(FaultCase):
    columns = [KEY, ("age", "int", True), ("name", "text", True)]

    def test_the_greater_key_has_the_fault(self):
        schema = {"a": described(self.columns, (), ["name"])}
        self.assertEqual(self.found(schema, {"a": {5: (1, "x"), 2: (2, "x"), 9: (3, "x")}}), ("unique", "a", 5))
        self.assertEqual(self.found(schema, {"a": {1: (1, "x"), 2: (1, "y"), 3: (1, "y")}}), ("unique", "a", 3))

    def test_null_is_no_fault(self):
        schema = {"a": described(self.columns, (), ["name", "age"])}
        self.assertIsNone(self.found(schema, {"a": {1: (None, None), 2: (None, None), 3: (None, "x"), 4: (1, None)}}))

    def test_empty_and_zero_are_no_nulls(self):
        schema = {"a": described(self.columns, (), ["name", "age"])}
        self.assertEqual(self.found(schema, {"a": {1: (1, ""), 2: (2, "")}}), ("unique", "a", 2))
        self.assertEqual(self.found(schema, {"a": {1: (0, "a"), 2: (0, "b")}}), ("unique", "a", 2))

    def test_other_columns_may_repeat(self):
        schema = {"a": described(self.columns, (), ["name"])}
        self.assertIsNone(self.found(schema, {"a": {1: (1, "x"), 2: (1, "y")}}))
        self.assertIsNone(self.found({"a": described(self.columns)}, {"a": {1: (1, "x"), 2: (1, "x")}}))

    def test_columns_are_apart(self):
        columns = [KEY, ("x", "int", True), ("y", "int", True)]
        schema = {"a": described(columns, (), ["y", "x"])}
        self.assertIsNone(self.found(schema, {"a": {1: (1, 2), 2: (2, 1), 3: (3, 3), 4: (4, 4)}}))

    def test_least_key_of_all_columns(self):
        schema = {"a": described(self.columns, (), ["name", "age"])}
        self.assertEqual(self.found(schema, {"a": {1: (1, "x"), 2: (1, "y"), 3: (2, "x")}}), ("unique", "a", 2))
        self.assertEqual(self.found(schema, {"a": {1: (1, "x"), 2: (2, "x"), 3: (1, "y")}}), ("unique", "a", 2))


class ReferenceTest(FaultCase):
    schema = {
        "a": described(
            [KEY, ("b", "int", True), ("c", "text", True)], (), (), [("b", "b"), ("c", "c")]),
        "b": described([KEY]),
        "c": described([("t", "text", False), ("n", "int", True)]),
    }

    def state(self, people):
        return {"a": people, "b": {1: (), 3: ()}, "c": {"x": (7,)}}

    def test_values_that_are_keys(self):
        self.assertIsNone(self.found(self.schema, self.state({1: (1, "x"), 2: (3, "x"), 9: (1, "x")})))

    def test_null_is_no_fault(self):
        self.assertIsNone(self.found(self.schema, self.state({1: (None, None), 2: (1, None), 3: (None, "x")})))

    def test_values_that_are_no_keys(self):
        people = {5: (2, "x"), 4: (1, "x"), 7: (0, "x")}
        self.assertEqual(self.found(self.schema, self.state(people)), ("reference", "a", 5))
        self.assertEqual(self.found(self.schema, self.state({4: (1, "x"), 6: (1, "")})), ("reference", "a", 6))
        self.assertEqual(self.found(self.schema, self.state({4: (0, "x")})), ("reference", "a", 4))

    def test_least_key_of_all_references(self):
        self.assertEqual(self.found(self.schema, self.state({1: (1, "y"), 2: (2, "x")})), ("reference", "a", 1))
        self.assertEqual(self.found(self.schema, self.state({2: (1, "y"), 1: (2, "x")})), ("reference", "a", 1))

    def test_own_keys_do_not_count(self):
        self.assertEqual(self.found(self.schema, self.state({2: (2, "x")})), ("reference", "a", 2))


class OrderTest(FaultCase):
    columns = [KEY, ("n", "int", True), ("m", "int", True)]

    def test_tables_first(self):
        bad, good = described(self.columns, [()]), described(self.columns)
        row = {1: (1, 1)}
        self.assertEqual(self.found({"b": bad, "a": bad}, {"b": {0: (0, 0)}, "a": row}), ("check", "a", 1))
        self.assertEqual(self.found({"a": bad, "b": bad}, {"a": row, "b": {0: (0, 0)}}), ("check", "a", 1))
        self.assertEqual(self.found({"c": bad, "a": good, "b": bad}, {"a": row, "b": row, "c": row}), ("check", "b", 1))
        unique = described(self.columns, (), ["n"])
        state = {"a": {1: (1, 1), 9: (1, 1)}, "b": row}
        self.assertEqual(self.found({"a": unique, "b": bad}, state), ("unique", "a", 9))

    def test_then_codes_then_keys(self):
        checks, uniques, references = [only("n", "<", 50)], ["m"], [("n", "b")]
        schema = {"a": described(self.columns, checks, uniques, references), "b": described([KEY])}
        people = {key: (1, None) for key in range(100, 161)}
        people.update({5: (77, None), 4: (1, 3), 3: (1, 3), 2: (2, None)})
        other = {1: ()}
        self.assertEqual(self.found(schema, {"a": people, "b": other}), ("full", "a", 156))
        people = {key: people[key] for key in range(2, 6)}
        self.assertEqual(self.found(schema, {"a": people, "b": other}), ("check", "a", 5))
        people[5] = (1, None)
        self.assertEqual(self.found(schema, {"a": people, "b": other}), ("unique", "a", 4))
        people[4] = (1, 4)
        self.assertEqual(self.found(schema, {"a": people, "b": other}), ("reference", "a", 2))
        people[2] = (None, None)
        self.assertEqual(self.found(schema, {"a": people, "b": other}), ("check", "a", 2))
        people[2] = (1, None)
        self.assertIsNone(self.found(schema, {"a": people, "b": other}))


if __name__ == "__main__":
    unittest.main()
