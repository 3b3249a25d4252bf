"""Point 32, and points 19 to 31 for any step: the empty complements, put right and put left."""

import copy
import unittest

from lenstree.errors import LensError
from lenstree.lens import empty_complement, put_left, put_right
from lenstree.states import fits_schema
from lenstree.steps import target_schema
from tests.support import called, described, only, raised

KEY = ("id", "int", False)
PERSON = described([KEY, ("name", "text", True), ("age", "int", False)])
TOWN = described([("nr", "int", False), ("zip", "text", True)])
NAMED = described([KEY, ("first", "text", True), ("last", "text", True), ("age", "int", False)])
OLD = only("age", ">=", 18)
PEOPLE = {1: ("al b", 30), 2: (None, 7)}
TOWNS = {30: ("ulm",)}


def with_limits(checks=(), uniques=(), references=()):
    """Return the schema whose table `person` has these constraints."""
    return {"person": described(PERSON["columns"], checks, uniques, references), "town": TOWN}


SCHEMA = with_limits()

# For each step: the left schema, the step, the left state and what put right gives with the empty complement.
CASES = [
    (SCHEMA, ("rename_column", "person", "name", "title"), {"person": PEOPLE, "town": TOWNS},
     {"person": PEOPLE, "town": TOWNS}, {}),
    (SCHEMA, ("reorder", "person", ("id", "age", "name")), {"person": PEOPLE, "town": TOWNS},
     {"person": {1: (30, "al b"), 2: (7, None)}, "town": TOWNS}, {}),
    (SCHEMA, ("add_column", "town", "size", "int", False, 5), {"person": PEOPLE, "town": TOWNS},
     {"person": PEOPLE, "town": {30: ("ulm", 5)}}, {"values": {30: 5}}),
    (SCHEMA, ("drop_column", "person", "name", "x"), {"person": PEOPLE, "town": TOWNS},
     {"person": {1: (30,), 2: (7,)}, "town": TOWNS}, {"values": {1: "al b", 2: None}}),
    (SCHEMA, ("convert", "person", "age", "text", True), {"person": PEOPLE, "town": TOWNS},
     {"person": {1: ("al b", "30"), 2: (None, "7")}, "town": TOWNS}, {"pairs": {1: (30, "30"), 2: (7, "7")}}),
    (SCHEMA, ("split_column", "person", "name", "first", "last", " "), {"person": PEOPLE, "town": TOWNS},
     {"person": {1: ("al", "b", 30), 2: (None, None, 7)}, "town": TOWNS},
     {"pairs": {1: ("al b", ("al", "b")), 2: (None, (None, None))}}),
    ({"person": NAMED}, ("merge_columns", "person", "first", "last", "name", " "),
     {"person": {1: ("al", "b", 30), 2: (None, None, 7)}}, {"person": PEOPLE},
     {"pairs": {1: ("al b", ("al", "b")), 2: (None, (None, None))}}),
    (SCHEMA, ("rename_table", "person", "folk"), {"person": PEOPLE, "town": TOWNS},
     {"folk": PEOPLE, "town": TOWNS}, {}),
    (SCHEMA, ("create_table", "new", (KEY,)), {"person": PEOPLE, "town": TOWNS},
     {"person": PEOPLE, "town": TOWNS, "new": {}}, {"rows": {}}),
    (SCHEMA, ("drop_table", "person"), {"person": PEOPLE, "town": TOWNS}, {"town": TOWNS}, {"rows": PEOPLE}),
    (SCHEMA, ("decompose", "person", "other", ("age",)), {"person": PEOPLE, "town": TOWNS},
     {"person": {1: ("al b",), 2: (None,)}, "other": {1: (30,), 2: (7,)}, "town": TOWNS},
     {"missing": {}, "extra": {}}),
    (SCHEMA, ("recompose", "person", "town"), {"person": PEOPLE, "town": {1: ("ulm",), 9: (None,)}},
     {"person": {1: ("al b", 30, "ulm"), 2: (None, 7, None)}}, {"missing": {2: (None,)}, "extra": {9: (None,)}}),
    (SCHEMA, ("partition", "person", "child", OLD), {"person": PEOPLE, "town": TOWNS},
     {"person": {1: ("al b", 30)}, "child": {2: (None, 7)}, "town": TOWNS},
     {"sides": {1: (("al b", 30), True), 2: ((None, 7), False)}}),
    ({"person": PERSON, "child": PERSON}, ("union", "person", "child", OLD),
     {"person": {1: ("al b", 30)}, "child": {2: (None, 7)}}, {"person": PEOPLE},
     {"sides": {1: (("al b", 30), True), 2: ((None, 7), False)}}),
    ({"person": PERSON, "old": PERSON}, ("move", "person", "old", OLD),
     {"person": PEOPLE, "old": {5: ("x", 90)}}, {"person": {2: (None, 7)}, "old": {1: ("al b", 30), 5: ("x", 90)}},
     {"marks": {1: (("al b", 30), True), 2: ((None, 7), False)}}),
    (SCHEMA, ("extract", "person", "name", ("age",), "known"), {"person": PEOPLE, "town": TOWNS},
     {"person": {1: ("al b",), 2: (None,)}, "known": {"al b": (30,)}, "town": TOWNS},
     {"known": {"al b": (30,)}, "apart": {2: (None, (7,))}}),
    (SCHEMA, ("inline", "person", "age", "town"), {"person": PEOPLE, "town": TOWNS},
     {"person": {1: ("al b", 30, "ulm"), 2: (None, 7, None)}}, {"known": TOWNS, "apart": {2: (7, (None,))}}),
    (SCHEMA, ("add_check", "person", OLD), {"person": PEOPLE, "town": TOWNS},
     {"person": {1: ("al b", 30)}, "town": TOWNS}, {"hidden": {2: (None, 7)}}),
    (with_limits([OLD]), ("drop_check", "person", OLD), {"person": {1: ("al b", 30)}, "town": TOWNS},
     {"person": {1: ("al b", 30)}, "town": TOWNS}, {"hidden": {}}),
    (SCHEMA, ("add_unique", "person", "name"), {"person": {1: ("x", 1), 2: ("x", 1)}, "town": TOWNS},
     {"person": {1: ("x", 1)}, "town": TOWNS}, {"hidden": {2: ("x", 1)}, "shown": {1: ("x", 1)}}),
    (with_limits([], ["name"]), ("drop_unique", "person", "name"), {"person": PEOPLE, "town": TOWNS},
     {"person": PEOPLE, "town": TOWNS}, {"hidden": {}, "shown": PEOPLE}),
    (SCHEMA, ("add_reference", "person", "age", "town"), {"person": PEOPLE, "town": TOWNS},
     {"person": {1: ("al b", 30)}, "town": TOWNS}, {"hidden": {2: (None, 7)}}),
    (with_limits([], [], [("age", "town")]), ("drop_reference", "person", "age", "town"),
     {"person": {1: ("al b", 30)}, "town": TOWNS}, {"person": {1: ("al b", 30)}, "town": TOWNS}, {"hidden": {}}),
]
ENTRIES = {
    "rename_column": [], "reorder": [], "add_column": ["values"], "drop_column": ["values"], "convert": ["pairs"],
    "split_column": ["pairs"], "merge_columns": ["pairs"], "rename_table": [], "create_table": ["rows"],
    "drop_table": ["rows"], "decompose": ["missing", "extra"], "recompose": ["missing", "extra"],
    "partition": ["sides"], "union": ["sides"], "move": ["marks"], "extract": ["known", "apart"],
    "inline": ["known", "apart"], "add_check": ["hidden"], "drop_check": ["hidden"],
    "add_unique": ["hidden", "shown"], "drop_unique": ["hidden", "shown"], "add_reference": ["hidden"],
    "drop_reference": ["hidden"],
}


class EmptyComplementTest(unittest.TestCase):
    def test_each_kind(self):
        self.assertEqual([case[1][0] for case in CASES], list(ENTRIES))
        self.assertEqual(len(ENTRIES), 23)
        for _, step, _, _, _ in CASES:
            with self.subTest(step=step):
                expected = {name: {} for name in ENTRIES[step[0]]}
                self.assertEqual(called(self, empty_complement, step), expected)

    def test_the_result_is_new(self):
        for _, step, _, _, _ in CASES:
            first = empty_complement(step)
            for entry in first.values():
                entry[1] = 2
            first["more"] = {}
            self.assertEqual(empty_complement(step), {name: {} for name in ENTRIES[step[0]]})


class PutTest(unittest.TestCase):
    def test_put_right_of_each_kind(self):
        for schema, step, left, right, complement in CASES:
            with self.subTest(step=step):
                self.assertTrue(fits_schema(schema, left))
                result = called(self, put_right, schema, step, left, empty_complement(step))
                self.assertIs(type(result), tuple)
                self.assertEqual(result, (right, complement))
                self.assertTrue(fits_schema(target_schema(schema, step), right))

    def test_put_left_of_each_kind(self):
        for schema, step, left, right, complement in CASES:
            with self.subTest(step=step):
                result = called(self, put_left, schema, step, right, complement)
                self.assertIs(type(result), tuple)
                self.assertEqual(result, (left, complement))

    def test_put_right_again_with_the_new_complement(self):
        for schema, step, left, right, complement in CASES:
            with self.subTest(step=step):
                self.assertEqual(called(self, put_right, schema, step, left, complement), (right, complement))

    def test_the_results_are_new(self):
        for schema, step, left, right, complement in CASES:
            for put, state, goal in ((put_right, left, right), (put_left, right, left)):
                with self.subTest(step=step, put=put.__name__):
                    for part in put(schema, step, state, copy.deepcopy(complement)):
                        for item in part.values():
                            item.clear()
                        part.clear()
                    self.assertEqual(put(schema, step, state, complement), (goal, complement))

    def test_errors(self):
        hidden = {2: (None, 7)}
        bound = {"person": {2: ("x", 99), 1: ("y", 99)}, "town": {}}
        for schema, step, complement in (
            (SCHEMA, ("add_check", "person", OLD), {"hidden": hidden}),
            (SCHEMA, ("add_unique", "person", "name"), {"hidden": hidden, "shown": {}}),
            (SCHEMA, ("add_reference", "person", "age", "town"), {"hidden": hidden}),
        ):
            error = raised(self, LensError, put_left, schema, step, bound, complement)
            self.assertEqual((error.code, error.table, error.key), ("hidden", "person", 2))
        for schema, step, complement in (
            (with_limits([OLD]), ("drop_check", "person", OLD), {"hidden": hidden}),
            (with_limits([], ["name"]), ("drop_unique", "person", "name"), {"hidden": hidden, "shown": {}}),
            (SCHEMA, ("decompose", "person", "other", ("age",)), {"missing": {}, "extra": {2: (7,)}}),
        ):
            error = raised(self, LensError, put_right, schema, step, bound, complement)
            self.assertEqual((error.code, error.table, error.key), ("hidden", "person", 2))
        schema = {"person": PERSON, "child": PERSON}
        state = {"person": {2: ("x", 1), 3: ("x", 1)}, "child": {3: ("x", 1), 1: ("x", 1)}}
        error = raised(self, LensError, put_right, schema, ("union", "person", "child", OLD), state, {"sides": {}})
        self.assertEqual((error.code, error.table, error.key), ("double", "person", 3))

    def test_the_examples_of_the_document(self):
        note = described([KEY, ("size", "text", False)])
        step = ("convert", "note", "size", "int", False)
        result = called(self, put_right, {"note": note}, step, {"note": {1: ("007",)}}, {"pairs": {}})
        self.assertEqual(result, ({"note": {1: (0,)}}, {"pairs": {1: ("007", 0)}}))
        result = called(self, put_left, {"note": note}, step, {"note": {1: (0,)}}, {"pairs": {1: ("007", 0)}})
        self.assertEqual(result, ({"note": {1: ("007",)}}, {"pairs": {1: ("007", 0)}}))


if __name__ == "__main__":
    unittest.main()
