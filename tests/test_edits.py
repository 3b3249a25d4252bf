"""Points 14 to 16: edits, writes and differences."""

import copy
import random
import unittest

from lenstree.edits import apply_write, difference, touched
from lenstree.errors import EditError
from lenstree.states import empty_state, first_fault, fits_schema
from tests.support import called, described, only, raised

PERSON = described([("id", "int", False), ("name", "text", True), ("age", "int", False)])
WORD = described([("word", "text", False), ("note", "text", False)])
BARE = described([("id", "int", False)])
SCHEMA = {"person": PERSON, "word": WORD, "bare": BARE}
STATE = {
    "person": {1: ("al", 30), 2: (None, 40), -3: ("bo", 50)},
    "word": {"": ("x",), "b": ("",)},
    "bare": {7: ()},
}
WIDEST = "x" * 30


class WriteTest(unittest.TestCase):
    def gives(self, edits, changed):
        """See that the write leads from STATE to the state in which some rows are changed; None is no row."""
        expected = copy.deepcopy(STATE)
        for table, key, rest in changed:
            if rest is None:
                del expected[table][key]
            else:
                expected[table][key] = rest
        self.assertEqual(called(self, apply_write, SCHEMA, STATE, edits), expected)

    def fails(self, edits, code, index=0, state=STATE, schema=SCHEMA):
        error = raised(self, EditError, apply_write, schema, state, edits)
        self.assertEqual((error.code, error.index), (code, index), edits)


class ApplyTest(WriteTest):
    def test_no_edits(self):
        self.gives([], [])
        self.assertEqual(apply_write({}, {}, []), {})

    def test_insert(self):
        self.gives([("insert", "person", (4, None, 0))], [("person", 4, (None, 0))])
        self.gives([("insert", "word", ("a", ""))], [("word", "a", ("",))])
        self.gives([("insert", "bare", (0,))], [("bare", 0, ())])
        widest = (-999999999, WIDEST, 999999999)
        self.gives([("insert", "person", widest)], [("person", -999999999, (WIDEST, 999999999))])

    def test_replace(self):
        self.gives([("replace", "person", (1, "cy", 31))], [("person", 1, ("cy", 31))])
        self.gives([("replace", "person", (1, "al", 30))], [])
        self.gives([("replace", "word", ("", "y"))], [("word", "", ("y",))])
        self.gives([("replace", "bare", (7,))], [])

    def test_set(self):
        self.gives([("set", "person", 1, "name", None)], [("person", 1, (None, 30))])
        self.gives([("set", "person", -3, "age", -1)], [("person", -3, ("bo", -1))])
        self.gives([("set", "person", 2, "name", WIDEST)], [("person", 2, (WIDEST, 40))])
        self.gives([("set", "word", "b", "note", "z")], [("word", "b", ("z",))])

    def test_delete(self):
        self.gives([("delete", "person", 1)], [("person", 1, None)])
        self.gives([("delete", "word", "")], [("word", "", None)])
        self.gives([("delete", "bare", 7)], [("bare", 7, None)])

    def test_later_edits_see_earlier_ones(self):
        self.gives([("insert", "bare", (8,)), ("delete", "bare", 8)], [])
        self.gives([("delete", "person", 1), ("insert", "person", (1, "x", 1))], [("person", 1, ("x", 1))])
        both = [("set", "person", 1, "age", 1), ("set", "person", 1, "age", 2), ("set", "person", 1, "name", "z")]
        self.gives(both, [("person", 1, ("z", 2))])
        self.gives([("insert", "bare", (8,)), ("replace", "bare", (8,))], [("bare", 8, ())])
        chain = [("insert", "person", (9, "a", 1)), ("set", "person", 9, "age", 2), ("replace", "person", (9, None, 3)),
                 ("set", "person", 9, "name", "q")]
        self.gives(chain, [("person", 9, ("q", 3))])
        self.gives([("set", "word", "b", "note", "1"), ("set", "person", 1, "age", 2), ("delete", "word", "")],
                   [("word", "b", ("1",)), ("person", 1, ("al", 2)), ("word", "", None)])

    def test_the_length_of_a_write(self):
        edits = [("insert", "bare", (number,)) for number in range(10, 33)]
        self.gives(edits, [("bare", number, ()) for number in range(10, 33)])
        edits.append(("delete", "bare", 7))
        self.assertEqual(len(edits), 24)
        self.gives(edits, [("bare", number, ()) for number in range(10, 33)] + [("bare", 7, None)])
        edits.append(("insert", "bare", (7,)))
        self.fails(edits, "long", 24)
        self.fails(edits + edits, "long", 24)
        self.fails([("delete", "nowhere", 7)] + [("set", "person", 1, "name", True)] * 24, "long", 24)

    def test_faults_are_not_looked_for(self):
        checked = described(PERSON["columns"], [only("age", ">", 0)], ["name"])
        lost = described([("id", "int", False), ("other", "int", True)], [], [], [("other", "person")])
        schema = {"person": checked, "lost": lost}
        state = empty_state(schema)
        edits = [("insert", "person", (1, "a", 0)), ("insert", "person", (2, "a", 1)), ("insert", "lost", (1, 99))]
        after = called(self, apply_write, schema, state, edits)
        self.assertEqual(after, {"person": {1: ("a", 0), 2: ("a", 1)}, "lost": {1: (99,)}})
        self.assertIsNotNone(first_fault(schema, after))
        many = {"bare": {number: () for number in range(60)}}
        after = called(self, apply_write, {"bare": BARE}, many, [("insert", "bare", (60,)), ("insert", "bare", (61,))])
        self.assertEqual(len(after["bare"]), 62)

    def test_the_result_is_new(self):
        result = apply_write(SCHEMA, STATE, [])
        result["person"].clear()
        result["bare"][9] = ()
        del result["word"]
        self.gives([], [])


class CodesTest(WriteTest):
    def test_table(self):
        for table in ("nowhere", "", "Person", "id"):
            self.fails([("insert", table, (1,))], "table")
            self.fails([("replace", table, (1,))], "table")
            self.fails([("set", table, 1, "name", "x")], "table")
            self.fails([("delete", table, 1)], "table")

    def test_row_of_insert_and_replace(self):
        bad = [
            (), (5,), (5, "x"), (5, "x", 1, 1), (1, "x"), (1, "al", 30, None), ("5", "x", 1), (None, "x", 1),
            (True, "x", 1), (5, 1, 1), (5, "x", "1"), (5, "x", None), (5, True, 1), (5, "x", False), (5, "x", True),
            (1000000000, "x", 1), (5, "x", 1000000000), (5, "x", -1000000000), (5, "x" * 31, 1), (5, "50%", 1),
            (5, "\n", 1), (5, "\u00e9", 1), (1, "al", None),
        ]
        for row in bad:
            self.fails([("insert", "person", row)], "row")
            self.fails([("replace", "person", row)], "row")
        for row in ((1, ""), ("a", None), (None, ""), ("a",), ("a", "", ""), ("a" * 31, ""), ("a%", "")):
            self.fails([("insert", "word", row)], "row")
            self.fails([("replace", "word", row)], "row")
        self.fails([("insert", "bare", (8, None))], "row")
        self.fails([("insert", "bare", ())], "row")

    def test_row_of_set(self):
        for column in ("id", "nothing", "", "word", "Name"):
            self.fails([("set", "person", 1, column, 1)], "row")
        for value in (1, True, False, "x" * 31, "%", "\t"):
            self.fails([("set", "person", 1, "name", value)], "row")
        for value in (None, "1", True, False, 1000000000, -1000000000):
            self.fails([("set", "person", 1, "age", value)], "row")
        self.fails([("set", "word", "b", "word", "b")], "row")
        self.fails([("set", "word", "b", "note", None)], "row")
        self.fails([("set", "bare", 7, "id", 7)], "row")

    def test_key_that_does_not_fit(self):
        for key in ("1", None, True, False, 1000000000, -1000000000, ""):
            self.fails([("set", "person", key, "age", 1)], "key")
            self.fails([("delete", "person", key)], "key")
        for key in (1, None, True, "a" * 31, "%"):
            self.fails([("set", "word", key, "note", "")], "key")
            self.fails([("delete", "word", key)], "key")

    def test_true_is_not_the_key_one(self):
        state = {"person": {0: ("a", 1), 1: ("b", 1)}, "word": {}, "bare": {}}
        for key in (True, False):
            self.fails([("set", "person", key, "age", 1)], "key", state=state)
            self.fails([("delete", "person", key)], "key", state=state)
            self.fails([("replace", "person", (key, "x", 1))], "row", state=state)

    def test_key_that_is_there(self):
        self.fails([("insert", "person", (1, "x", 1))], "key")
        self.fails([("insert", "person", (1, "al", 30))], "key")
        self.fails([("insert", "word", ("", "x"))], "key")
        self.fails([("insert", "bare", (7,))], "key")

    def test_key_that_is_not_there(self):
        self.fails([("replace", "person", (4, "x", 1))], "key")
        self.fails([("set", "person", 4, "age", 1)], "key")
        self.fails([("delete", "person", 4)], "key")
        self.fails([("replace", "word", ("a", "x"))], "key")
        self.fails([("delete", "word", "a")], "key")
        self.fails([("replace", "bare", (8,))], "key")

    def test_the_first_code_counts(self):
        self.fails([("insert", "nowhere", ())], "table")
        self.fails([("set", "nowhere", None, "x", True)], "table")
        self.fails([("delete", "nowhere", None)], "table")
        self.fails([("insert", "person", (1, "x"))], "row")
        self.fails([("insert", "person", (1, "x", None))], "row")
        self.fails([("replace", "person", (4, "x", "y"))], "row")
        self.fails([("set", "person", None, "id", 1)], "row")
        self.fails([("set", "person", 4, "age", None)], "row")
        self.fails([("set", "person", "x", "nothing", None)], "row")

    def test_the_first_edit_that_fails_counts(self):
        good = ("set", "person", 1, "age", 1)
        self.fails([good, ("delete", "person", 4), ("delete", "nowhere", 1)], "key", 1)
        self.fails([good, good, ("delete", "nowhere", 1), ("delete", "person", 4)], "table", 2)
        self.fails([good] * 23 + [("insert", "bare", ())], "row", 23)

    def test_later_edits_fail_by_what_earlier_ones_did(self):
        self.fails([("insert", "bare", (8,)), ("insert", "bare", (8,))], "key", 1)
        self.fails([("delete", "bare", 7), ("delete", "bare", 7)], "key", 1)
        self.fails([("delete", "person", 1), ("set", "person", 1, "age", 1)], "key", 1)
        self.fails([("delete", "person", 1), ("replace", "person", (1, "al", 30))], "key", 1)


def any_state(source, schema, keys):
    """Return a state with some of the keys."""
    return {table: {key: source.choice(rests) for key in choice if source.randrange(2)}
            for table, (choice, rests) in keys.items()}


KEYS = {
    "person": (range(-9, 60), [("a", 1), (None, 1), ("a", 2)]),
    "word": (["", "a", "B", "10", "9", " "], [("",), ("x",)]),
    "bare": (range(9), [()]),
}


class DifferenceTest(unittest.TestCase):
    def differs(self, before, after, expected):
        result = called(self, difference, SCHEMA, before, after)
        self.assertEqual(result, expected)
        self.assertIs(type(result), list)
        if len(expected) <= 24:
            self.assertEqual(apply_write(SCHEMA, before, expected), after)

    def test_equal_states(self):
        self.differs(STATE, copy.deepcopy(STATE), [])
        empty = empty_state(SCHEMA)
        self.differs(empty, empty, [])
        self.assertEqual(difference({}, {}, {}), [])

    def test_no_rows_on_one_side(self):
        empty = empty_state(SCHEMA)
        self.differs(empty, STATE, [
            ("insert", "bare", (7,)),
            ("insert", "person", (-3, "bo", 50)), ("insert", "person", (1, "al", 30)),
            ("insert", "person", (2, None, 40)), ("insert", "word", ("", "x")), ("insert", "word", ("b", "")),
        ])
        self.differs(STATE, empty, [
            ("delete", "bare", 7), ("delete", "person", -3), ("delete", "person", 1), ("delete", "person", 2),
            ("delete", "word", ""), ("delete", "word", "b"),
        ])

    def test_the_example_of_the_document(self):
        schema = {"person": described([("id", "int", False), ("name", "text", True)])}
        before, after = {"person": {1: ("al",), 2: ("bo",)}}, {"person": {2: (None,), 3: ("cy",)}}
        expected = [("delete", "person", 1), ("replace", "person", (2, None)), ("insert", "person", (3, "cy"))]
        self.assertEqual(called(self, difference, schema, before, after), expected)

    def test_rows_that_appear_change_and_vanish(self):
        after = {
            "word": {"c": ("",), "b": ("y",), "a": ("",)},
            "bare": {8: (), 7: ()},
            "person": {3: ("n", 1), 2: (None, 40), 1: ("al", 31), 10: (None, 0)},
        }
        self.differs(STATE, after, [
            ("insert", "bare", (8,)),
            ("delete", "person", -3), ("replace", "person", (1, "al", 31)), ("insert", "person", (3, "n", 1)),
            ("insert", "person", (10, None, 0)),
            ("delete", "word", ""), ("insert", "word", ("a", "")), ("replace", "word", ("b", "y")),
            ("insert", "word", ("c", "")),
        ])

    def test_keys_ascend_by_kind(self):
        before = {"person": {}, "bare": {10: (), 9: (), -10: ()}, "word": {"10": ("",), "9": ("",), "B": ("",)}}
        after = {"person": {}, "bare": {2: (), -9: ()}, "word": {"a": ("",), "": ("",), "100": ("",)}}
        self.differs(before, after, [
            ("delete", "bare", -10), ("insert", "bare", (-9,)), ("insert", "bare", (2,)), ("delete", "bare", 9),
            ("delete", "bare", 10), ("insert", "word", ("", "")), ("delete", "word", "10"),
            ("insert", "word", ("100", "")), ("delete", "word", "9"), ("delete", "word", "B"),
            ("insert", "word", ("a", "")),
        ])

    def test_more_than_a_write_may_have(self):
        before = {"person": {}, "word": {}, "bare": {}}
        after = {"person": {}, "word": {}, "bare": {number: () for number in range(39, -1, -1)}}
        self.differs(before, after, [("insert", "bare", (number,)) for number in range(40)])

    def test_the_difference_leads_from_one_state_to_the_other(self):
        source = random.Random(16)
        for _ in range(150):
            before = any_state(source, SCHEMA, KEYS)
            after = any_state(source, SCHEMA, KEYS)
            self.assertTrue(fits_schema(SCHEMA, before))
            edits = called(self, difference, SCHEMA, before, after)
            changed = [(table, key) for table in SCHEMA for key in set(before[table]) | set(after[table])
                       if before[table].get(key) != after[table].get(key)]
            self.assertEqual(touched(edits), sorted(changed))
            state = before
            for place in range(0, len(edits), 24):
                state = apply_write(SCHEMA, state, edits[place:place + 24])
            self.assertEqual(state, after)


class TouchedTest(unittest.TestCase):
    def test_no_edits(self):
        self.assertEqual(called(self, touched, []), [])

    def test_each_kind_of_edit(self):
        self.assertEqual(called(self, touched, [("insert", "a", (1, 2))]), [("a", 1)])
        self.assertEqual(called(self, touched, [("replace", "a", ("k", None))]), [("a", "k")])
        self.assertEqual(called(self, touched, [("set", "a", 1, "c", 2)]), [("a", 1)])
        self.assertEqual(called(self, touched, [("delete", "a", "k")]), [("a", "k")])

    def test_order_and_duplicates(self):
        edits = [
            ("delete", "b", 2), ("insert", "b", (10, 1)), ("set", "a", "z", "c", 1), ("insert", "b", (2, 3)),
            ("replace", "b", (-1, 3)), ("set", "b", 10, "c", 4), ("delete", "a", "Z"), ("set", "a", "z", "d", 0),
        ]
        self.assertEqual(called(self, touched, edits), [("a", "Z"), ("a", "z"), ("b", -1), ("b", 2), ("b", 10)])


if __name__ == "__main__":
    unittest.main()
