"""Points 20 and 29: the lenses of extract and inline."""

import copy
import unittest

from lenstree.groups import group_left, group_right
from tests.lens_case import LensCase
from tests.support import called, described, only

KEY = ("id", "int", False)
TOWN = {"ulm": (1,), "": (0,)}
TOWN_TABLE = described([("name", "text", False), ("size", "int", False)])


class GroupCase(LensCase):
    """`apart` goes to the side of both tables, `together` to the side of one table. `town` is not named: it stays."""

    put_right = staticmethod(group_right)
    put_left = staticmethod(group_left)

    def use(self, schema, step):
        self.schema = {"town": TOWN_TABLE, **schema}
        self.step = step

    def apart(self, wide, known, old_apart, narrow, other, new_apart):
        """The new "known" is always what the other table has."""
        self.go_apart(
            {"town": TOWN, "order": wide}, {"known": known, "apart": old_apart},
            {"town": TOWN, "order": narrow, "customer": other}, {"known": other, "apart": new_apart})

    def together(self, narrow, other, known, old_apart, wide, new_apart):
        self.go_together(
            {"town": TOWN, "order": narrow, "customer": other}, {"known": known, "apart": old_apart},
            {"town": TOWN, "order": wide}, {"known": other, "apart": new_apart})


class GroupTests:
    """The wide table has the columns id, who (a nullable text), sum, city (not nullable), zip (nullable).

    The columns city and zip are the part.
    """

    def test_nothing_at_all(self):
        self.apart({}, {}, {}, {}, {}, {})
        self.together({}, {}, {}, {}, {}, {})

    def test_apart_with_the_empty_complement(self):
        wide = {2: ("bo", 7, "ulm", None), 1: ("al", 0, "bonn", 53)}
        self.apart(wide, {}, {}, {1: ("al", 0), 2: ("bo", 7)}, {"al": ("bonn", 53), "bo": ("ulm", None)}, {})

    def test_rows_that_share_a_group(self):
        wide = {3: ("al", 3, "ulm", 1), 1: ("al", 1, "ulm", 1), 2: ("bo", 2, "ulm", 1)}
        narrow = {1: ("al", 1), 2: ("bo", 2), 3: ("al", 3)}
        self.apart(wide, {}, {}, narrow, {"al": ("ulm", 1), "bo": ("ulm", 1)}, {})

    def test_the_fresh_row_with_the_least_key(self):
        wide = {7: ("al", 0, "a", 1), 2: ("al", 0, "b", 2), -3: ("al", 0, "c", 3), 10: ("al", 0, "c", 3)}
        narrow = {key: ("al", 0) for key in wide}
        new_apart = {7: ("al", ("a", 1)), 2: ("al", ("b", 2))}
        self.apart(wide, {}, {}, narrow, {"al": ("c", 3)}, new_apart)
        self.apart(wide, {"al": ("z", None)}, {}, narrow, {"al": ("c", 3)}, new_apart)

    def test_a_null_group(self):
        wide = {1: (None, 0, "ulm", 1), 2: (None, 0, "ulm", 1), 3: ("al", 0, "ulm", 1)}
        narrow = {1: (None, 0), 2: (None, 0), 3: ("al", 0)}
        new_apart = {1: (None, ("ulm", 1)), 2: (None, ("ulm", 1))}
        self.apart(wide, {}, {}, narrow, {"al": ("ulm", 1)}, new_apart)
        self.apart(wide, {}, {1: ("al", ("ulm", 1)), 2: (None, ("x", 1))}, narrow, {"al": ("ulm", 1)}, new_apart)
        self.together(narrow, {"al": ("ulm", 1)}, {}, new_apart, wide, new_apart)

    def test_a_null_group_beside_the_empty_text(self):
        self.apart({1: (None, 0, "x", 1), 2: ("", 0, "y", 2)}, {}, {}, {1: (None, 0), 2: ("", 0)}, {"": ("y", 2)},
                   {1: (None, ("x", 1))})
        self.together({1: (None, 0), 2: ("", 0)}, {"": ("y", 2)}, {}, {}, {1: (None, 0, "", None), 2: ("", 0, "y", 2)},
                      {1: (None, ("", None))})

    def test_a_row_has_the_part_that_known_has(self):
        wide = {1: ("al", 0, "new", 1), 2: ("al", 0, "ulm", 1)}
        narrow = {1: ("al", 0), 2: ("al", 0)}
        self.apart(wide, {"al": ("ulm", 1)}, {}, narrow, {"al": ("ulm", 1)}, {1: ("al", ("new", 1))})
        wide = {1: ("al", 0, "ulm", 1), 2: ("al", 0, "new", 1)}
        self.apart(wide, {"al": ("ulm", 1)}, {}, narrow, {"al": ("ulm", 1)}, {2: ("al", ("new", 1))})
        # That row may stand in "apart" with this very part, too.
        self.apart(wide, {"al": ("ulm", 1)}, {1: ("al", ("ulm", 1))}, narrow, {"al": ("ulm", 1)},
                   {2: ("al", ("new", 1))})

    def test_no_row_has_the_part_that_known_has(self):
        wide = {5: ("al", 0, "new", 1), 2: ("al", 0, "newer", 1)}
        narrow = {5: ("al", 0), 2: ("al", 0)}
        self.apart(wide, {"al": ("ulm", 1)}, {}, narrow, {"al": ("newer", 1)}, {5: ("al", ("new", 1))})
        # A part is compared as a whole.
        self.apart({5: ("al", 0, "ulm", 2)}, {"al": ("ulm", 1)}, {}, {5: ("al", 0)}, {"al": ("ulm", 2)}, {})
        self.apart({5: ("al", 0, "ulm", None)}, {"al": ("ulm", 1)}, {}, {5: ("al", 0)}, {"al": ("ulm", None)}, {})

    def test_the_part_that_known_has_counts_by_its_group(self):
        wide = {1: ("al", 0, "new", 1), 2: ("bo", 0, "ulm", 1)}
        narrow = {1: ("al", 0), 2: ("bo", 0)}
        known = {"al": ("ulm", 1), "bo": ("new", 1)}
        self.apart(wide, known, {}, narrow, {"al": ("new", 1), "bo": ("ulm", 1)}, {})

    def test_apart_with_the_group_and_part_of_the_row(self):
        wide = {1: ("al", 0, "x", 1), 2: ("al", 0, "y", 1)}
        narrow = {1: ("al", 0), 2: ("al", 0)}
        first = {1: ("al", ("x", 1))}
        both = {1: ("al", ("x", 1)), 2: ("al", ("y", 1))}
        # A row that stands apart is not fresh.
        self.apart(wide, {"al": ("ulm", 1)}, both, narrow, {"al": ("ulm", 1)}, both)
        self.apart(wide, {}, both, narrow, {}, both)
        self.apart(wide, {"al": ("ulm", 1)}, first, narrow, {"al": ("y", 1)}, first)
        self.apart(wide, {}, first, narrow, {"al": ("y", 1)}, first)

    def test_apart_with_another_group_or_part(self):
        wide = {1: ("al", 0, "x", 1), 2: ("al", 0, "x", None)}
        narrow = {1: ("al", 0), 2: ("al", 0)}
        for old in ({1: ("bo", ("x", 1))}, {1: (None, ("x", 1))}, {1: ("al", ("x", None))}, {1: ("al", ("y", 1))},
                    {3: ("al", ("x", 1))}, {}):
            self.apart(wide, {}, old, narrow, {"al": ("x", 1)}, {2: ("al", ("x", None))})

    def test_apart_of_other_keys_is_dropped(self):
        old = {8: ("al", ("x", 1)), 9: (None, ("x", 1))}
        self.apart({1: ("al", 0, "x", 1)}, {}, old, {1: ("al", 0)}, {"al": ("x", 1)}, {})
        self.together({1: ("al", 0)}, {"al": ("x", 1)}, {}, old, {1: ("al", 0, "x", 1)}, {})

    def test_groups_of_known_that_no_row_has(self):
        known = {"zo": ("q", 9), "": ("", None)}
        self.apart({}, known, {}, {}, known, {})
        self.apart({1: ("al", 0, "x", 1)}, known, {}, {1: ("al", 0)}, {**known, "al": ("x", 1)}, {})

    def test_together_with_groups(self):
        narrow = {1: ("al", 1), 2: ("bo", 2), 3: ("al", 3)}
        other = {"al": ("ulm", 1), "bo": ("bonn", None), "zo": ("q", 9)}
        wide = {1: ("al", 1, "ulm", 1), 2: ("bo", 2, "bonn", None), 3: ("al", 3, "ulm", 1)}
        for known in ({}, {"al": ("x", 0)}, {"ann": ("x", 0), "bo": ("bonn", None)}):
            self.together(narrow, other, known, {}, wide, {})

    def test_together_without_the_group_in_the_other_table(self):
        narrow = {1: ("al", 1), 2: (None, 2)}
        plain = {1: ("al", 1, "", None), 2: (None, 2, "", None)}
        new_apart = {1: ("al", ("", None)), 2: (None, ("", None))}
        self.together(narrow, {}, {}, {}, plain, new_apart)
        self.together(narrow, {"zo": ("q", 9)}, {"al": ("x", 1)}, {}, plain, new_apart)

    def test_together_with_apart(self):
        narrow = {1: ("al", 1), 2: ("bo", 2), 3: (None, 3), 4: ("al", 4)}
        other = {"al": ("ulm", 1)}
        old = {1: ("al", ("x", 5)), 2: ("bo", ("y", 6)), 3: (None, ("z", 7))}
        wide = {1: ("al", 1, "x", 5), 2: ("bo", 2, "y", 6), 3: (None, 3, "z", 7), 4: ("al", 4, "ulm", 1)}
        self.together(narrow, other, {}, old, wide, old)

    def test_together_with_apart_of_another_group(self):
        narrow = {1: ("al", 1), 2: ("bo", 2), 3: (None, 3), 4: ("al", 4)}
        other = {"al": ("ulm", 1)}
        old = {1: ("bo", ("x", 5)), 2: (None, ("y", 6)), 3: ("al", ("z", 7)), 4: (None, ("w", 8))}
        wide = {1: ("al", 1, "ulm", 1), 2: ("bo", 2, "", None), 3: (None, 3, "", None), 4: ("al", 4, "ulm", 1)}
        self.together(narrow, other, {}, old, wide, {2: ("bo", ("", None)), 3: (None, ("", None))})

    def test_together_with_the_part_of_the_other_table_in_apart(self):
        """A part that is remembered although the other table has the same one is no part that stands apart."""
        self.together({1: ("al", 1)}, {"al": ("ulm", 1)}, {}, {1: ("al", ("ulm", 1))}, {1: ("al", 1, "ulm", 1)}, {})

    def test_a_row_of_the_other_table_that_changes(self):
        """All rows of the group follow, but not those that stand apart."""
        old = {3: ("al", ("far", 3))}
        wide = {1: ("al", 1, "bonn", 2), 2: ("al", 2, "bonn", 2), 3: ("al", 3, "far", 3)}
        narrow = {1: ("al", 1), 2: ("al", 2), 3: ("al", 3)}
        self.together(narrow, {"al": ("bonn", 2)}, {"al": ("ulm", 1)}, old, wide, old)


class ExtractTest(GroupTests, GroupCase):
    def setUp(self):
        columns = [KEY, ("who", "text", True), ("sum", "int", False), ("city", "text", False), ("zip", "int", True)]
        self.use({"order": described(columns)}, ("extract", "order", "who", ("city", "zip"), "customer"))

    def go_apart(self, *arguments):
        self.right(*arguments)

    def go_together(self, *arguments):
        self.left(*arguments)

    def test_columns_told_in_another_order(self):
        columns = [KEY, ("city", "text", False), ("who", "int", True), ("zip", "int", True), ("sum", "int", False)]
        for told in (("city", "zip"), ("zip", "city")):
            self.use({"order": described(columns)}, ("extract", "order", "who", told, "customer"))
            self.apart({1: ("ulm", 5, 89, 0)}, {}, {}, {1: (5, 0)}, {5: ("ulm", 89)}, {})
            self.apart({1: ("ulm", 5, 89, 0)}, {}, {1: (5, ("ulm", 89))}, {1: (5, 0)}, {}, {1: (5, ("ulm", 89))})
            self.together({1: (5, 0)}, {5: ("ulm", 89)}, {}, {}, {1: ("ulm", 5, 89, 0)}, {})
            self.together({1: (5, 0)}, {}, {}, {1: (5, ("x", 1))}, {1: ("x", 5, 1, 0)}, {1: (5, ("x", 1))})
            self.together({1: (5, 0)}, {}, {}, {}, {1: ("", 5, None, 0)}, {1: (5, ("", None))})

    def test_a_column_that_is_used(self):
        """The column of the groups may be used, and the table referenced."""
        order = described([KEY, ("who", "int", False), ("city", "text", True)], [only("who", ">", 0)], ["who"])
        line = described([KEY, ("nr", "int", True)], [], [], [("nr", "order")])
        self.schema = {"order": order, "line": line}
        self.step = ("extract", "order", "who", ("city",), "customer")
        lines = {3: (1,), 4: (None,), 5: (9,)}
        left = {"order": {1: (7, "ulm"), 2: (8, None)}, "line": lines}
        right = {"order": {1: (7,), 2: (8,)}, "line": lines, "customer": {7: ("ulm",), 8: (None,)}}
        complement = {"known": {7: ("ulm",), 8: (None,)}, "apart": {}}
        self.right(left, {"known": {}, "apart": {}}, right, complement)
        self.left(right, {"known": {}, "apart": {}}, left, complement)

    def test_keys_of_rows_that_are_texts(self):
        columns = [("code", "text", False), ("who", "int", True), ("city", "text", True)]
        self.use({"order": described(columns)}, ("extract", "order", "who", ("city",), "customer"))
        wide = {"9": (1, "a"), "10": (1, "b"), "": (2, "c"), " ": (2, "d")}
        narrow = {"9": (1,), "10": (1,), "": (2,), " ": (2,)}
        self.apart(wide, {}, {}, narrow, {1: ("b",), 2: ("c",)}, {"9": (1, ("a",)), " ": (2, ("d",))})

    def test_plain_values(self):
        columns = [KEY, ("a", "int", True), ("b", "text", False), ("c", "int", False), ("d", "text", True),
                   ("g", "int", True)]
        self.use({"order": described(columns)}, ("extract", "order", "g", ("a", "b", "c", "d"), "customer"))
        plain = (None, "", 0, None)
        self.together({1: (None,), 2: (5,)}, {}, {}, {}, {1: plain + (None,), 2: plain + (5,)},
                      {1: (None, plain), 2: (5, plain)})

    def test_the_example_of_the_document(self):
        columns = [KEY, ("customer", "text", False), ("city", "text", False)]
        self.schema = {"orders": described(columns)}
        self.step = ("extract", "orders", "customer", ("city",), "customers")
        left = {"orders": {1: ("al", "ulm"), 2: ("bo", "bonn"), 3: ("bo", "bonn")}}
        right, complement = called(self, group_right, self.schema, self.step, left, {"known": {}, "apart": {}})
        self.assertEqual(right["customers"], {"al": ("ulm",), "bo": ("bonn",)})
        # The only order of a customer: the right shows the new city.
        only_order = copy.deepcopy(left)
        only_order["orders"][1] = ("al", "trier")
        self.right(only_order, complement, {**right, "customers": {"al": ("trier",), "bo": ("bonn",)}},
                   {"known": {"al": ("trier",), "bo": ("bonn",)}, "apart": {}})
        # One of two orders: the right keeps the city of the other one.
        for changed in (2, 3):
            one_of_two = copy.deepcopy(left)
            one_of_two["orders"][changed] = ("bo", "trier")
            self.right(one_of_two, complement, right,
                       {"known": complement["known"], "apart": {changed: ("bo", ("trier",))}})


class InlineTest(GroupTests, GroupCase):
    def setUp(self):
        order = described([KEY, ("who", "text", True), ("sum", "int", False)])
        customer = described([("name", "text", False), ("city", "text", False), ("zip", "int", True)])
        self.use({"order": order, "customer": customer}, ("inline", "order", "who", "customer"))

    def go_apart(self, *arguments):
        self.left(*arguments)

    def go_together(self, *arguments):
        self.right(*arguments)

    def test_a_table_with_nothing_but_a_key(self):
        order = described([KEY, ("who", "int", True)])
        self.use({"order": order, "customer": described([("nr", "int", False)])}, self.step)
        narrow = {1: (5,), 2: (None,), 3: (6,)}
        self.together(narrow, {5: (), 9: ()}, {}, {}, narrow, {2: (None, ()), 3: (6, ())})
        self.apart(narrow, {9: ()}, {3: (6, ())}, narrow, {5: (), 9: ()}, {2: (None, ()), 3: (6, ())})

    def test_plain_values(self):
        customer = described([("nr", "int", False), ("a", "int", True), ("b", "text", False), ("c", "int", False),
                              ("d", "text", True)])
        self.use({"order": described([KEY, ("g", "int", True)]), "customer": customer},
                 ("inline", "order", "g", "customer"))
        plain = (None, "", 0, None)
        self.together({1: (None,), 2: (5,)}, {}, {}, {}, {1: (None,) + plain, 2: (5,) + plain},
                      {1: (None, plain), 2: (5, plain)})

    def test_names_and_places_of_the_columns(self):
        """The column may be called otherwise than the key column of the other table, and stand anywhere."""
        order = described([KEY, ("sum", "int", False), ("who", "text", False)], [only("sum", ">", 0)])
        customer = described([("id", "text", False), ("zip", "int", True)])
        self.use({"order": order, "customer": customer}, ("inline", "order", "who", "customer"))
        self.together({1: (0, "al")}, {"al": (9,)}, {}, {}, {1: (0, "al", 9)}, {})
        self.apart({1: (0, "al", 9), 2: (0, "al", 8)}, {}, {}, {1: (0, "al"), 2: (0, "al")}, {"al": (9,)},
                   {2: ("al", (8,))})


if __name__ == "__main__":
    unittest.main()
