"""Points 19 and 33: the lenses of scripts."""

import copy
import random
import unittest

from lenstree.errors import LensError
from lenstree.lens import put_left, put_right
from lenstree.scripts import empty_complements, script_left, script_right
from lenstree.states import first_fault, fits_schema
from lenstree.steps import script_schema
from tests.support import called, described, only, raised
from tests.test_laws import any_complement, any_state

KEY = ("id", "int", False)
PERSON = described([KEY, ("name", "text", True), ("age", "int", False)])
SCHEMA = {"person": PERSON}
SPLIT = ("split_column", "person", "name", "first", "last", " ")
RENAME = ("rename_column", "person", "age", "years")
WIDEN = ("add_column", "person", "town", "text", False, "ulm")
GROWN = ("add_check", "person", only("years", ">=", 18))


class EmptyComplementsTest(unittest.TestCase):
    def test_each_step_has_one(self):
        self.assertEqual(called(self, empty_complements, []), [])
        self.assertEqual(called(self, empty_complements, [SPLIT]), [{"pairs": {}}])
        expected = [{"pairs": {}}, {}, {"hidden": {}}, {"values": {}}]
        self.assertEqual(called(self, empty_complements, [SPLIT, RENAME, GROWN, WIDEN]), expected)

    def test_the_result_is_new(self):
        first = empty_complements([WIDEN, WIDEN])
        first[0]["values"][1] = 2
        self.assertEqual(first[1], {"values": {}})
        self.assertEqual(empty_complements([WIDEN, WIDEN]), [{"values": {}}, {"values": {}}])


class ScriptCase(unittest.TestCase):
    def right(self, schema, script, left, complements, expected):
        result = called(self, script_right, schema, script, left, complements)
        self.check(script_right, (schema, script, left, complements), result, expected)
        self.assertTrue(fits_schema(script_schema(schema, script), result[0]))

    def left(self, schema, script, right, complements, expected):
        result = called(self, script_left, schema, script, right, complements)
        self.check(script_left, (schema, script, right, complements), result, expected)
        self.assertTrue(fits_schema(schema, result[0]))

    def check(self, function, arguments, result, expected):
        self.assertIs(type(result), tuple)
        self.assertIs(type(result[1]), list)
        self.assertEqual(result, expected)
        # What is returned is new at each call.
        state, complements = function(*arguments)
        for item in list(state.values()) + [entry for complement in complements for entry in complement.values()]:
            item.clear()
        complements.clear()
        self.assertEqual(function(*arguments), expected)

    def fails(self, function, schema, script, state, complements, code, table, key):
        error = raised(self, LensError, function, schema, script, state, complements)
        self.assertEqual((error.code, error.table, error.key), (code, table, key))


class ScriptTest(ScriptCase):
    def test_no_steps(self):
        for people in ({}, {1: ("al", 5)}):
            self.right(SCHEMA, [], {"person": people}, [], ({"person": people}, []))
            self.left(SCHEMA, [], {"person": people}, [], ({"person": people}, []))

    def test_no_steps_and_a_state_that_is_not_sound(self):
        schema = {"person": described(PERSON["columns"], [only("age", ">", 9)])}
        state = {"person": {1: ("al", 5)}}
        self.right(schema, [], state, [], (state, []))
        self.left(schema, [], state, [], (state, []))

    def test_one_step(self):
        left = {"person": {1: ("ada b lovelace", 36)}}
        right = {"person": {1: ("ada", "b lovelace", 36)}}
        pairs = [{"pairs": {1: ("ada b lovelace", ("ada", "b lovelace"))}}]
        self.right(SCHEMA, [SPLIT], left, [{"pairs": {}}], (right, pairs))
        self.left(SCHEMA, [SPLIT], right, [{"pairs": {}}], (left, pairs))
        moved = {"person": {1: ("ada b", "lovelace", 36)}}
        self.left(SCHEMA, [SPLIT], moved, pairs, (left, [{"pairs": {1: ("ada b lovelace", ("ada b", "lovelace"))}}]))

    def test_several_steps(self):
        script = [SPLIT, RENAME, GROWN, WIDEN]
        left = {"person": {1: ("al b", 36), 2: (None, 5)}}
        right = {"person": {1: ("al", "b", 36, "ulm")}}
        complements = [
            {"pairs": {1: ("al b", ("al", "b")), 2: (None, (None, None))}}, {}, {"hidden": {2: (None, None, 5)}},
            {"values": {1: "ulm"}},
        ]
        self.right(SCHEMA, script, left, empty_complements(script), (right, complements))
        self.left(SCHEMA, script, right, complements, (left, complements))
        new_right = {"person": {1: ("al", "c", 36, "bonn"), 3: ("", None, 18, "trier")}}
        new_left = {"person": {1: ("al c", 36), 2: (None, 5), 3: (" ", 18)}}
        new_complements = [
            {"pairs": {1: ("al c", ("al", "c")), 2: (None, (None, None)), 3: (" ", ("", None))}}, {},
            {"hidden": {2: (None, None, 5)}}, {"values": {1: "bonn", 3: "trier"}},
        ]
        self.left(SCHEMA, script, new_right, complements, (new_left, new_complements))
        self.right(SCHEMA, script, new_left, new_complements, (new_right, new_complements))

    def test_steps_that_undo_each_other(self):
        """Each step has a complement of its own, also if the same column or table is meant."""
        script = [("drop_column", "person", "name", "x"), ("add_column", "person", "name", "text", True, "y")]
        left = {"person": {1: ("al", 5), 2: (None, 6)}}
        self.right(SCHEMA, script, left, empty_complements(script), (
            {"person": {1: (5, "y"), 2: (6, "y")}}, [{"values": {1: "al", 2: None}}, {"values": {1: "y", 2: "y"}}]))
        right = {"person": {1: (5, "z"), 3: (7, "z")}}
        new_complements = [{"values": {1: "al", 3: "x"}}, {"values": {1: "z", 3: "z"}}]
        self.left(SCHEMA, script, right, [{"values": {1: "al", 2: None}}, {"values": {}}],
                  ({"person": {1: ("al", 5), 3: ("x", 7)}}, new_complements))

    def test_the_schema_may_have_other_tables(self):
        schema = {"person": PERSON, "town": described([("nr", "int", False)])}
        script = [("rename_table", "person", "folk"), ("drop_table", "town"), ("create_table", "town", (KEY,))]
        left = {"person": {1: ("al", 5)}, "town": {7: ()}}
        right = {"folk": {1: ("al", 5)}, "town": {}}
        complements = [{}, {"rows": {7: ()}}, {"rows": {}}]
        self.right(schema, script, left, empty_complements(script), (right, complements))
        self.left(schema, script, right, complements, (left, complements))


class BetweenTest(ScriptCase):
    """Point 33: a state between two steps must be sound; the first and the last one are not looked at."""

    def test_a_fault_between_two_steps_on_the_way_right(self):
        schema = {"person": PERSON}
        union = [("partition", "person", "other", only("age", "<", 50)), ("rename_table", "other", "old"),
                 ("union", "person", "old", only("age", ">", 0))]
        many = {"person": {number: (None, 99) for number in range(61)}}
        self.fails(script_right, schema, union, many, empty_complements(union), "full", "other", 60)
        self.fails(script_right, schema, union[:2], many, empty_complements(union[:2]), "full", "other", 60)
        # Behind the last step nothing is looked at, nor is the first state.
        right, complements = called(self, script_right, schema, union[:1], many, [{"sides": {}}])
        self.assertEqual((right["person"], right["other"]), ({}, many["person"]))
        self.left(schema, union[:1], right, complements, (many, complements))

    def test_a_fault_between_two_steps_on_the_way_left(self):
        schema = {"person": PERSON}
        script = [("rename_table", "person", "folk"), ("add_check", "folk", only("age", ">", 0)),
                  ("add_column", "folk", "town", "text", True, None)]
        right = {"folk": {5: ("al", 0, None), 3: ("bo", -1, None), 1: ("cy", 1, None)}}
        empty = empty_complements(script)
        self.fails(script_left, schema, script, right, empty, "check", "folk", 3)
        # Without the last step the state that breaks the check is the one handed in.
        state = {"folk": {5: ("al", 0), 3: ("bo", -1)}}
        self.left(schema, script[:2], state, empty[:2], ({"person": state["folk"]}, [{}, {"hidden": {}}]))

    def test_the_fault_has_the_names_between_the_steps(self):
        schema = {"a": described([KEY, ("to", "int", True)], [], [], [("to", "b")]), "b": described([KEY])}
        left = {"a": {4: (9,), 2: (8,), 1: (None,)}, "b": {3: ()}}
        script = [("rename_table", "a", "zz"), ("rename_table", "b", "bb"), ("rename_table", "zz", "c")]
        self.fails(script_right, schema, script, left, [{}, {}, {}], "reference", "zz", 2)
        right = {"c": left["a"], "bb": left["b"]}
        self.fails(script_left, schema, script, right, [{}, {}, {}], "reference", "zz", 2)
        self.right(schema, script[:1], left, [{}], ({"zz": left["a"], "b": left["b"]}, [{}]))

    def test_the_first_fault_of_the_state_counts(self):
        columns = [KEY, ("n", "int", True), ("m", "int", True)]
        schema = {"b": described(columns, [only("n", ">", 0)], ["m"]), "a": described(columns, [], ["n"])}
        script = [("rename_column", "b", "id", "nr"), ("rename_column", "a", "id", "nr")]
        left = {"b": {1: (0, 5), 2: (1, 5)}, "a": {7: (5, 0), 6: (5, 0), 8: (5, 1)}}
        self.fails(script_right, schema, script, left, [{}, {}], "unique", "a", 7)
        left["a"] = {}
        self.fails(script_right, schema, script, left, [{}, {}], "check", "b", 1)
        left["b"][1] = (9, 5)
        self.fails(script_right, schema, script, left, [{}, {}], "unique", "b", 2)
        left["b"][1] = (9, 6)
        right = {"a": left["a"], "b": left["b"]}
        self.right(schema, script, left, [{}, {}], (right, [{}, {}]))

    def test_the_first_lens_error_counts(self):
        schema = {"person": PERSON}
        script = [("add_check", "person", only("age", ">", 0)), ("add_check", "person", only("age", ">", 9))]
        complements = [{"hidden": {1: ("al", 0)}}, {"hidden": {2: ("bo", 5)}}]
        right = {"person": {1: ("x", 50), 2: ("y", 50)}}
        self.fails(script_left, schema, script, right, complements, "hidden", "person", 2)
        right = {"person": {1: ("x", 50)}}
        self.fails(script_left, schema, script, right, complements, "hidden", "person", 1)
        apart = [("decompose", "person", "one", ("age",)), ("decompose", "person", "two", ("name",))]
        left = {"person": {1: ("al", 5), 2: ("bo", 6)}}
        extra = [{"missing": {}, "extra": {2: (0,)}}, {"missing": {}, "extra": {1: (None,)}}]
        self.fails(script_right, schema, apart, left, extra, "hidden", "person", 2)
        extra[0]["extra"] = {}
        self.fails(script_right, schema, apart, left, extra, "hidden", "person", 1)

    def test_a_fault_comes_before_the_error_of_the_next_step(self):
        schema = {"person": described(PERSON["columns"], [only("age", ">", 0)])}
        script = [("rename_table", "person", "folk"), ("decompose", "folk", "one", ("name",))]
        left = {"person": {1: ("al", 5), 2: ("bo", 0)}}
        complements = [{}, {"missing": {}, "extra": {1: (None,)}}]
        self.fails(script_right, schema, script, left, complements, "check", "folk", 2)
        self.fails(script_right, schema, script, {"person": {1: ("al", 5)}}, complements, "hidden", "folk", 1)
        # An error of the step comes before the faults of what it would have given.
        script = [("decompose", "person", "one", ("name",)), ("rename_table", "person", "folk")]
        complements = [{"missing": {}, "extra": {1: (None,)}}, {}]
        self.fails(script_right, schema, script, left, complements, "hidden", "person", 1)


WIDE = described([KEY, ("n", "int", True), ("t", "text", True), ("m", "int", False), ("u", "text", False)])
NARROW = described([("w", "text", False), ("a", "int", True)])
START = {"person": WIDE, "word": NARROW}
SCRIPTS = [
    [],
    [("split_column", "person", "t", "f", "l", " "), ("merge_columns", "person", "l", "f", "x", "a")],
    [("drop_column", "person", "t", "a"), ("add_column", "person", "t", "text", False, ""),
     ("convert", "person", "t", "int", True)],
    [("decompose", "person", "q", ("m", "u")), ("drop_table", "q"), ("rename_table", "person", "q")],
    [("partition", "person", "q", only("n", ">", 0)), ("decompose", "q", "r", ("t",)), ("drop_column", "q", "m", 1),
     ("recompose", "q", "r")],
    [("extract", "person", "n", ("u",), "q"), ("rename_column", "q", "n", "k"), ("inline", "person", "m", "q")],
    [("extract", "person", "u", ("t",), "q"), ("add_column", "q", "v", "int", True, None),
     ("drop_table", "word"), ("rename_table", "q", "word")],
    [("inline", "person", "u", "word"), ("add_check", "person", only("a", "given", None)),
     ("add_unique", "person", "a")],
    [("add_unique", "person", "n"), ("add_reference", "person", "t", "word"), ("drop_unique", "person", "n"),
     ("drop_reference", "person", "t", "word")],
    [("add_reference", "person", "u", "word"), ("add_check", "person", only("m", ">", 0)),
     ("drop_reference", "person", "u", "word"), ("drop_check", "person", only("m", ">", 0))],
    [("partition", "person", "q", ()), ("move", "q", "person", only("m", "=", 7)),
     ("union", "person", "q", only("m", "=", 0))],
]
ROUNDS = 120


class LawsTest(unittest.TestCase):
    """Both rules of point 19 for scripts, if both states are sound; states and complements from fixed seeds."""

    def schemas(self, script):
        found = [START]
        for step in script:
            found.append(script_schema(found[-1], [step]))
        return found

    def any_complements(self, source, script, schemas):
        return [any_complement(source, step, sorted(empty), here, there) for step, empty, here, there
                in zip(script, empty_complements(script), schemas, schemas[1:])]

    def by_hand(self, steps, schemas, state, complements, put, shift):
        """Put a state step by step; return what comes out and the new complements, or None for an error."""
        found = []
        for place, (at, step) in enumerate(steps):
            if place > 0 and first_fault(schemas[at + shift], state) is not None:
                return None
            try:
                state, complement = put(schemas[at], step, state, complements[at])
            except LensError:
                return None
            found.append(complement)
        return state, found

    def goes(self, function, script, state, complements):
        """Return what the function gives, or None for an error."""
        before = copy.deepcopy((state, complements))
        try:
            result = function(START, script, state, complements)
        except LensError:
            result = None
        self.assertEqual((state, complements), before)
        return result

    def test_both_rules(self):
        for script in SCRIPTS:
            schemas = self.schemas(script)
            source = random.Random(repr(script))
            steps = list(enumerate(script))
            count = 0
            with self.subTest(script=script):
                for _ in range(ROUNDS):
                    complements = self.any_complements(source, script, schemas)
                    state = any_state(source, schemas[0])
                    result = self.goes(script_right, script, state, complements)
                    self.assertEqual(result, self.by_hand(steps, schemas, state, complements, put_right, 0))
                    count += self.comes_back(script, schemas[0], schemas[-1], state, result, script_left)
                    state = any_state(source, schemas[-1])
                    result = self.goes(script_left, script, state, complements)
                    expected = self.by_hand(steps[::-1], schemas, state, complements, put_left, 1)
                    if expected is not None:
                        expected = (expected[0], expected[1][::-1])
                    self.assertEqual(result, expected)
                    count += self.comes_back(script, schemas[-1], schemas[0], state, result, script_right)
                self.assertGreater(count, 10)

    def comes_back(self, script, here, there, state, result, back):
        if result is None or first_fault(here, state) is not None or first_fault(there, result[0]) is not None:
            return False
        self.assertEqual(self.goes(back, script, result[0], result[1]), (state, result[1]))
        return True


if __name__ == "__main__":
    unittest.main()
