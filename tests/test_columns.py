"""Points 20 to 24: the lenses of the steps on columns."""

import unittest

from lenstree.columns import column_left, column_right
from tests.lens_case import LensCase
from tests.support import described

KEY = ("id", "int", False)
TOWN = {"ulm": (1, None), "": (0, "x")}


class ColumnCase(LensCase):
    """The table `person` is the one of the step; the table `town` is another one, which stays."""

    put_right = staticmethod(column_right)
    put_left = staticmethod(column_left)

    def use(self, columns, step):
        town = described([("name", "text", False), ("size", "int", False), ("word", "text", True)])
        self.schema = {"person": described(columns), "town": town}
        self.step = step

    def rows_right(self, left, complement, expected, new_complement):
        self.right({"person": left, "town": TOWN}, complement, {"person": expected, "town": TOWN}, new_complement)

    def rows_left(self, right, complement, expected, new_complement):
        self.left({"person": right, "town": TOWN}, complement, {"person": expected, "town": TOWN}, new_complement)


class RenameColumnTest(ColumnCase):
    def test_both_directions(self):
        for step in (("rename_column", "person", "name", "word"), ("rename_column", "person", "id", "nr")):
            self.use([KEY, ("name", "text", True), ("age", "int", False)], step)
            for people in ({}, {2: ("bo", 7), 1: (None, 0)}):
                self.rows_right(people, {}, people, {})
                self.rows_left(people, {}, people, {})


class ReorderTest(ColumnCase):
    columns = [KEY, ("a", "int", False), ("b", "text", True), ("c", "int", True), ("d", "text", False)]

    def test_both_directions(self):
        self.use(self.columns, ("reorder", "person", ("id", "c", "d", "a", "b")))
        left = {1: (1, "one", 11, "x"), 2: (2, None, None, "")}
        right = {1: (11, "x", 1, "one"), 2: (None, "", 2, None)}
        self.rows_right(left, {}, right, {})
        self.rows_left(right, {}, left, {})
        self.rows_right({}, {}, {}, {})
        self.rows_left({}, {}, {}, {})

    def test_the_same_order(self):
        self.use(self.columns, ("reorder", "person", ("id", "a", "b", "c", "d")))
        people = {1: (1, "one", 11, "x")}
        self.rows_right(people, {}, people, {})
        self.rows_left(people, {}, people, {})


class AddColumnTest(ColumnCase):
    def setUp(self):
        self.use([KEY, ("name", "text", True)], ("add_column", "person", "age", "int", True, 7))

    def test_right_with_the_empty_complement(self):
        expected = {1: ("al", 7), 2: (None, 7)}
        self.rows_right({1: ("al",), 2: (None,)}, {"values": {}}, expected, {"values": {1: 7, 2: 7}})
        self.rows_right({}, {"values": {}}, {}, {"values": {}})

    def test_right_with_values(self):
        left = {1: ("al",), 2: ("bo",), 3: ("cy",)}
        values = {1: 30, 2: None, 9: 5}
        expected = {1: ("al", 30), 2: ("bo", None), 3: ("cy", 7)}
        self.rows_right(left, {"values": values}, expected, {"values": {1: 30, 2: None, 3: 7}})

    def test_right_with_values_of_other_keys(self):
        self.rows_right({1: ("al",)}, {"values": {2: 5, 0: 6}}, {1: ("al", 7)}, {"values": {1: 7}})
        self.rows_right({}, {"values": {2: 5}}, {}, {"values": {}})

    def test_left(self):
        right = {1: ("al", 30), 2: (None, None)}
        for values in ({}, {1: 30, 2: None}, {1: 4, 2: 5}, {8: 1}):
            self.rows_left(right, {"values": values}, {1: ("al",), 2: (None,)}, {"values": {1: 30, 2: None}})
        self.rows_left({}, {"values": {1: 4}}, {}, {"values": {}})

    def test_default_null(self):
        self.use([KEY], ("add_column", "person", "age", "int", True, None))
        self.rows_right({1: (), 2: ()}, {"values": {2: 0}}, {1: (None,), 2: (0,)}, {"values": {1: None, 2: 0}})
        self.rows_left({1: (None,)}, {"values": {}}, {1: ()}, {"values": {1: None}})

    def test_key_of_kind_text(self):
        self.use([("t", "text", False), ("a", "int", False)], ("add_column", "person", "b", "text", False, "z"))
        left, expected = {"x": (1,), "": (2,)}, {"x": (1, "z"), "": (2, "")}
        self.rows_right(left, {"values": {"": ""}}, expected, {"values": {"x": "z", "": ""}})


class DropColumnTest(ColumnCase):
    columns = [KEY, ("a", "int", False), ("name", "text", True), ("b", "text", False)]

    def setUp(self):
        self.use(self.columns, ("drop_column", "person", "name", "some"))

    def test_right(self):
        left = {1: (5, "al", "x"), 2: (6, None, "y")}
        for values in ({}, {1: "al", 2: None}, {1: "no", 2: "no"}, {7: "z"}):
            self.rows_right(left, {"values": values}, {1: (5, "x"), 2: (6, "y")}, {"values": {1: "al", 2: None}})
        self.rows_right({}, {"values": {1: "a"}}, {}, {"values": {}})

    def test_left_with_the_empty_complement(self):
        self.rows_left({1: (5, "x")}, {"values": {}}, {1: (5, "some", "x")}, {"values": {1: "some"}})

    def test_left_with_values(self):
        values = {1: "al", 2: None, 9: "z"}
        expected = {1: (5, "al", "x"), 2: (6, None, "y"), 3: (7, "some", "z")}
        right = {1: (5, "x"), 2: (6, "y"), 3: (7, "z")}
        self.rows_left(right, {"values": values}, expected, {"values": {1: "al", 2: None, 3: "some"}})
        self.rows_left({}, {"values": values}, {}, {"values": {}})

    def test_the_first_and_the_last_column(self):
        self.use(self.columns, ("drop_column", "person", "a", 0))
        self.rows_left({1: ("al", "x")}, {"values": {1: 9}}, {1: (9, "al", "x")}, {"values": {1: 9}})
        self.rows_right({1: (9, "al", "x")}, {"values": {}}, {1: ("al", "x")}, {"values": {1: 9}})
        self.use(self.columns, ("drop_column", "person", "b", "-"))
        self.rows_left({1: (5, "al")}, {"values": {}}, {1: (5, "al", "-")}, {"values": {1: "-"}})
        self.rows_right({1: (5, "al", "x")}, {"values": {}}, {1: (5, "al")}, {"values": {1: "x"}})

    def test_default_null(self):
        self.use(self.columns, ("drop_column", "person", "name", None))
        self.rows_left({1: (5, "x")}, {"values": {}}, {1: (5, None, "x")}, {"values": {1: None}})


class ConvertTest(ColumnCase):
    def use_kinds(self, kind, nullable, new_kind, new_nullable):
        columns = [KEY, ("a", "int", True), ("size", kind, nullable), ("b", "text", True)]
        self.use(columns, ("convert", "person", "size", new_kind, new_nullable))

    def values_right(self, values, pairs, expected):
        """Put right rows that have these values in the column."""
        new_pairs = {key: (values[key], expected[key]) for key in values}
        left = {key: (key, value, "b") for key, value in values.items()}
        right = {key: (key, value, "b") for key, value in expected.items()}
        self.rows_right(left, {"pairs": pairs}, right, {"pairs": new_pairs})

    def values_left(self, values, pairs, expected):
        """Put left rows that have these values in the column."""
        new_pairs = {key: (expected[key], values[key]) for key in values}
        right = {key: (key, value, "b") for key, value in values.items()}
        left = {key: (key, value, "b") for key, value in expected.items()}
        self.rows_left(right, {"pairs": pairs}, left, {"pairs": new_pairs})

    def test_example_of_the_document(self):
        self.schema = {"note": described([KEY, ("size", "text", False)])}
        self.step = ("convert", "note", "size", "int", False)
        pairs = {"pairs": {1: ("007", 0)}}
        self.right({"note": {1: ("007",)}}, {"pairs": {}}, {"note": {1: (0,)}}, pairs)
        self.left({"note": {1: (0,)}}, pairs, {"note": {1: ("007",)}}, pairs)

    def test_right_to_int_not_nullable(self):
        self.use_kinds("text", True, "int", False)
        self.values_right({1: "7", 2: "007", 3: None, 4: "-5", 5: ""}, {}, {1: 7, 2: 0, 3: 0, 4: -5, 5: 0})

    def test_right_to_int_nullable(self):
        self.use_kinds("text", True, "int", True)
        self.values_right({1: "7", 2: "007", 3: None, 4: "1000000000"}, {}, {1: 7, 2: None, 3: None, 4: None})

    def test_right_to_text(self):
        self.use_kinds("int", True, "text", True)
        self.values_right({1: 7, 2: -999999999, 3: None, 4: 0}, {}, {1: "7", 2: "-999999999", 3: None, 4: "0"})
        self.use_kinds("int", True, "text", False)
        self.values_right({1: 7, 2: None}, {}, {1: "7", 2: ""})

    def test_right_to_the_same_kind(self):
        self.use_kinds("text", True, "text", False)
        self.values_right({1: "007", 2: None, 3: ""}, {}, {1: "007", 2: "", 3: ""})
        self.use_kinds("int", False, "int", True)
        self.values_right({1: 7, 2: 0}, {}, {1: 7, 2: 0})
        self.use_kinds("int", True, "int", False)
        self.values_right({1: 7, 2: None}, {}, {1: 7, 2: 0})

    def test_left_without_pairs(self):
        self.use_kinds("text", False, "int", True)
        self.values_left({1: 7, 2: None, 3: -1}, {}, {1: "7", 2: "", 3: "-1"})
        self.use_kinds("text", True, "int", True)
        self.values_left({1: 7, 2: None}, {}, {1: "7", 2: None})
        self.use_kinds("int", False, "text", True)
        self.values_left({1: "7", 2: "007", 3: None, 4: "x"}, {}, {1: 7, 2: 0, 3: 0, 4: 0})
        self.use_kinds("int", True, "text", False)
        self.values_left({1: "7", 2: "007", 3: "x"}, {}, {1: 7, 2: None, 3: None})

    def test_right_with_pairs_that_agree(self):
        self.use_kinds("text", True, "int", True)
        pairs = {1: ("7", 99), 2: ("x", 5), 3: (None, 4), 4: ("8", None)}
        self.values_right({1: "7", 2: "x", 3: None, 4: "8"}, pairs, {1: 99, 2: 5, 3: 4, 4: None})

    def test_right_with_pairs_that_do_not_agree(self):
        self.use_kinds("text", True, "int", True)
        pairs = {1: ("8", 99), 2: (None, 5), 3: ("3", 4), 9: ("7", 6)}
        self.values_right({1: "7", 2: "12", 3: None, 4: "7"}, pairs, {1: 7, 2: 12, 3: None, 4: 7})

    def test_left_with_pairs_that_agree(self):
        self.use_kinds("text", True, "int", True)
        pairs = {1: ("007", 7), 2: ("x", 5), 3: ("y", None), 4: (None, 8)}
        self.values_left({1: 7, 2: 5, 3: None, 4: 8}, pairs, {1: "007", 2: "x", 3: "y", 4: None})

    def test_left_with_pairs_that_do_not_agree(self):
        self.use_kinds("text", True, "int", True)
        pairs = {1: ("007", 8), 2: ("x", None), 3: ("y", 5), 9: ("007", 7)}
        self.values_left({1: 7, 2: 5, 3: None, 4: 7}, pairs, {1: "7", 2: "5", 3: None, 4: "7"})

    def test_a_pair_is_looked_at_on_its_own_side(self):
        self.use_kinds("int", False, "int", False)
        self.values_right({1: 5}, {1: (6, 5)}, {1: 5})
        self.values_left({1: 5}, {1: (5, 6)}, {1: 5})
        self.values_right({1: 5}, {1: (5, 6)}, {1: 6})
        self.values_left({1: 5}, {1: (6, 5)}, {1: 6})

    def test_no_rows(self):
        self.use_kinds("text", True, "int", True)
        self.values_right({}, {1: ("7", 7)}, {})
        self.values_left({}, {1: ("7", 7)}, {})


class SplitCase(ColumnCase):
    """Splitting and merging, with the single column on one side and both columns on the other one."""

    def pairs_of(self, single, both):
        return {"pairs": {key: (single[key], both[key]) for key in single}}

    def single_state(self, values):
        return {key: (key, value, "b") for key, value in values.items()}

    def both_state(self, values):
        return {key: (key,) + value + ("b",) for key, value in values.items()}


class SplitColumnTest(SplitCase):
    def use_nullable(self, nullable, separator=" "):
        columns = [KEY, ("a", "int", True), ("name", "text", nullable), ("b", "text", True)]
        self.use(columns, ("split_column", "person", "name", "first", "last", separator))

    def split(self, single, pairs, both):
        new = self.pairs_of(single, both)
        self.rows_right(self.single_state(single), {"pairs": pairs}, self.both_state(both), new)

    def joined(self, both, pairs, single):
        new = self.pairs_of(single, both)
        self.rows_left(self.both_state(both), {"pairs": pairs}, self.single_state(single), new)

    def test_right_without_pairs(self):
        for nullable in (True, False):
            self.use_nullable(nullable)
            single = {1: "ada b lovelace", 2: "ada", 3: "", 4: " x", 5: "x "}
            both = {1: ("ada", "b lovelace"), 2: ("ada", ""), 3: ("", ""), 4: ("", "x"), 5: ("x", "")}
            self.split(single, {}, both)
        self.use_nullable(True)
        self.split({1: None, 2: "a b"}, {}, {1: (None, None), 2: ("a", "b")})

    def test_left_without_pairs(self):
        for nullable in (True, False):
            self.use_nullable(nullable)
            self.joined({1: ("a", "b"), 2: ("", ""), 3: ("a", "")}, {}, {1: "a b", 2: " ", 3: "a "})
            self.joined({1: ("a" * 20, "b" * 20)}, {}, {1: "a" * 20 + " " + "b" * 9})
        self.use_nullable(True)
        both = {1: (None, None), 2: ("a", None), 3: (None, "b"), 4: ("", None), 5: (None, "")}
        self.joined(both, {}, {1: None, 2: "a ", 3: " b", 4: " ", 5: " "})

    def test_the_separator(self):
        self.use_nullable(False, ",")
        self.split({1: "a b,c,d"}, {}, {1: ("a b", "c,d")})
        self.joined({1: ("a b", "c")}, {}, {1: "a b,c"})

    def test_example_of_the_document(self):
        self.use_nullable(True)
        text = "ada b lovelace"
        self.joined({1: ("ada b", "lovelace")}, {1: (text, ("ada", "b lovelace"))}, {1: text})
        self.split({1: text}, {1: (text, ("ada b", "lovelace"))}, {1: ("ada b", "lovelace")})
        self.split({1: "ada b c"}, {1: (text, ("ada b", "lovelace"))}, {1: ("ada", "b c")})

    def test_right_with_pairs(self):
        self.use_nullable(True)
        pairs = {
            1: ("a b", ("x", "y")), 2: ("other", ("x", "y")), 3: (None, ("x", None)), 4: (None, ("x", "y")),
            9: ("a", ("x", "y")),
        }
        single = {1: "a b", 2: "c d", 3: None, 4: "e f", 5: "a"}
        self.split(single, pairs, {1: ("x", "y"), 2: ("c", "d"), 3: ("x", None), 4: ("e", "f"), 5: ("a", "")})
        self.split({1: None}, {1: ("a", ("x", "y"))}, {1: (None, None)})

    def test_left_with_pairs(self):
        self.use_nullable(True)
        pairs = {
            1: ("one", ("a", "b")), 2: ("two", ("a", "c")), 3: ("three", ("x", "b")), 4: (None, ("", "")),
            5: ("five", (None, None)), 6: ("six", ("b", "a")), 9: ("nine", ("a", "b")),
        }
        both = {1: ("a", "b"), 2: ("a", "b"), 3: ("a", "b"), 4: ("", ""), 5: (None, None), 6: ("a", "b"), 7: ("a", "b")}
        single = {1: "one", 2: "a b", 3: "a b", 4: None, 5: "five", 6: "a b", 7: "a b"}
        self.joined(both, pairs, single)
        self.joined({1: (None, None)}, {1: ("a", ("x", "y"))}, {1: None})
        self.joined({1: (None, "")}, {1: ("a", ("", None))}, {1: " "})

    def test_no_rows(self):
        self.use_nullable(True)
        self.split({}, {1: ("a", ("x", "y"))}, {})
        self.joined({}, {1: ("a", ("x", "y"))}, {})

    def test_a_new_column_with_the_name_of_the_old_one(self):
        columns = [KEY, ("name", "text", True), ("age", "int", True)]
        for names in (("name", "last"), ("first", "name")):
            self.use(columns, ("split_column", "person", "name") + names + (" ",))
            complement = {"pairs": {1: ("a b", ("a", "b"))}}
            self.rows_right({1: ("a b", 7)}, {"pairs": {}}, {1: ("a", "b", 7)}, complement)
            self.rows_left({1: ("a", "b", 7)}, {"pairs": {}}, {1: ("a b", 7)}, complement)


class MergeColumnsTest(SplitCase):
    def use_nullable(self, first, second, separator=" "):
        columns = [KEY, ("a", "int", True), ("first", "text", first), ("last", "text", second), ("b", "text", True)]
        self.use(columns, ("merge_columns", "person", "first", "last", "name", separator))

    def joined(self, both, pairs, single):
        new = self.pairs_of(single, both)
        self.rows_right(self.both_state(both), {"pairs": pairs}, self.single_state(single), new)

    def split(self, single, pairs, both):
        new = self.pairs_of(single, both)
        self.rows_left(self.single_state(single), {"pairs": pairs}, self.both_state(both), new)

    def test_right_without_pairs(self):
        for first, second in ((True, True), (True, False), (False, True), (False, False)):
            self.use_nullable(first, second)
            self.joined({1: ("a", "b"), 2: ("", ""), 3: ("a", "")}, {}, {1: "a b", 2: " ", 3: "a "})
        self.use_nullable(True, True)
        self.joined({1: (None, None), 2: ("a", None), 3: (None, "b")}, {}, {1: None, 2: "a ", 3: " b"})
        self.use_nullable(True, False)
        self.joined({1: (None, "b"), 2: (None, "")}, {}, {1: " b", 2: " "})
        self.use_nullable(False, True)
        self.joined({1: ("a", None), 2: ("", None)}, {}, {1: "a ", 2: " "})

    def test_right_cuts_off(self):
        self.use_nullable(False, False, ",")
        self.joined({1: ("a" * 30, "b"), 2: ("a" * 29, "b")}, {}, {1: "a" * 30, 2: "a" * 29 + ","})

    def test_left_without_pairs(self):
        for first, second in ((True, True), (True, False), (False, True), (False, False)):
            self.use_nullable(first, second)
            self.split({1: "a b c", 2: "a", 3: ""}, {}, {1: ("a", "b c"), 2: ("a", ""), 3: ("", "")})
        self.use_nullable(True, True)
        self.split({1: None}, {}, {1: (None, None)})

    def test_right_with_pairs(self):
        self.use_nullable(True, True)
        pairs = {
            1: ("one", ("a", "b")), 2: ("two", ("b", "a")), 3: (None, ("", "")), 4: ("four", (None, None)),
            9: ("a", ("a", "b")),
        }
        both = {1: ("a", "b"), 2: ("a", "b"), 3: ("", ""), 4: (None, None), 5: ("a", "b")}
        self.joined(both, pairs, {1: "one", 2: "a b", 3: None, 4: "four", 5: "a b"})

    def test_left_with_pairs(self):
        self.use_nullable(True, True)
        pairs = {1: ("a b", ("x", "y")), 2: ("other", ("x", "y")), 3: (None, ("x", None)), 9: ("a b", ("x", "y"))}
        both = {1: ("x", "y"), 2: ("a", "b"), 3: ("x", None), 4: ("a", "b")}
        self.split({1: "a b", 2: "a b", 3: None, 4: "a b"}, pairs, both)

    def test_no_rows(self):
        self.use_nullable(True, True)
        self.joined({}, {1: ("a", ("x", "y"))}, {})
        self.split({}, {1: ("a", ("x", "y"))}, {})

    def test_places_of_the_columns(self):
        columns = [KEY, ("p", "text", False), ("n", "int", False), ("q", "text", False), ("m", "int", False)]
        complement = {"pairs": {1: ("x y", ("x", "y"))}}
        for name in ("new", "p", "q"):
            self.use(columns, ("merge_columns", "person", "p", "q", name, " "))
            self.rows_right({1: ("x", 5, "y", 6)}, {"pairs": {}}, {1: ("x y", 5, 6)}, complement)
            self.rows_left({1: ("x y", 5, 6)}, {"pairs": {}}, {1: ("x", 5, "y", 6)}, complement)
            self.use(columns, ("merge_columns", "person", "q", "p", name, " "))
            self.rows_right({1: ("y", 5, "x", 6)}, {"pairs": {}}, {1: (5, "x y", 6)}, complement)
            self.rows_left({1: (5, "x y", 6)}, {"pairs": {}}, {1: ("y", 5, "x", 6)}, complement)


if __name__ == "__main__":
    unittest.main()
