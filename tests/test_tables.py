"""Points 20, 21 and 25 to 28: the lenses of the steps on tables."""

import unittest

from lenstree.tables import table_left, table_right
from tests.lens_case import LensCase
from tests.support import described, only

KEY = ("id", "int", False)
TOWN = {"ulm": (1,), "": (0,)}
TOWN_TABLE = described([("name", "text", False), ("size", "int", False)])


class TableCase(LensCase):
    """The table `town` is one that the step does not name: it stays."""

    put_right = staticmethod(table_right)
    put_left = staticmethod(table_left)

    def use(self, schema, step):
        self.schema = {"town": TOWN_TABLE, **schema}
        self.step = step

    def goes_right(self, left, complement, expected, new_complement):
        self.right({"town": TOWN, **left}, complement, {"town": TOWN, **expected}, new_complement)

    def goes_left(self, right, complement, expected, new_complement):
        self.left({"town": TOWN, **right}, complement, {"town": TOWN, **expected}, new_complement)

    def no_way_right(self, left, complement, code, key, table="person"):
        self.right_fails({"town": TOWN, **left}, complement, code, table, key)

    def no_way_left(self, right, complement, code, key, table="person"):
        self.left_fails({"town": TOWN, **right}, complement, code, table, key)


class RenameTableTest(TableCase):
    def test_both_directions(self):
        self.use({"person": described([KEY, ("a", "int", True)])}, ("rename_table", "person", "folk"))
        for people in ({}, {1: (None,), 5: (7,)}):
            self.goes_right({"person": people}, {}, {"folk": people}, {})
            self.goes_left({"folk": people}, {}, {"person": people}, {})


class CreateTableTest(TableCase):
    def setUp(self):
        self.use({}, ("create_table", "person", (KEY, ("a", "int", True))))

    def test_right(self):
        for people in ({}, {1: (None,), 5: (7,)}):
            self.goes_right({}, {"rows": people}, {"person": people}, {"rows": people})

    def test_left(self):
        for people in ({}, {1: (None,), 5: (7,)}):
            for old in ({}, {1: (3,)}, {9: (3,)}):
                self.goes_left({"person": people}, {"rows": old}, {}, {"rows": people})


class DropTableTest(TableCase):
    def setUp(self):
        self.use({"person": described([KEY, ("a", "int", True)])}, ("drop_table", "person"))

    def test_right(self):
        for people in ({}, {1: (None,), 5: (7,)}):
            for old in ({}, {1: (3,)}, {9: (3,)}):
                self.goes_right({"person": people}, {"rows": old}, {}, {"rows": people})

    def test_left(self):
        for people in ({}, {1: (None,), 5: (7,)}):
            self.goes_left({}, {"rows": people}, {"person": people}, {"rows": people})


class ApartCase(TableCase):
    """Decompose and recompose. `apart` goes to the side of both tables, `together` to the side of one table."""

    def apart(self, wide, missing, extra, narrow, other, new_missing):
        self.go_apart(
            {"person": wide}, {"missing": missing, "extra": extra}, {"person": narrow, "other": other},
            {"missing": new_missing, "extra": extra})

    def together(self, narrow, other, missing, extra, wide, new_missing, new_extra):
        self.go_together(
            {"person": narrow, "other": other}, {"missing": missing, "extra": extra}, {"person": wide},
            {"missing": new_missing, "extra": new_extra})


class ApartTests:
    """The wide table has the columns id, n, a, b; the columns a and b move."""

    def test_apart_with_the_empty_complement(self):
        wide = {2: ("bo", 7, None), 1: ("al", 0, "x")}
        self.apart(wide, {}, {}, {1: ("al",), 2: ("bo",)}, {1: (0, "x"), 2: (7, None)}, {})
        self.apart({}, {}, {}, {}, {}, {})

    def test_apart_with_missing(self):
        wide = {1: ("al", 0, None), 2: ("bo", 7, "x"), 3: ("cy", 0, None), 4: ("di", 7, "x")}
        narrow = {1: ("al",), 2: ("bo",), 3: ("cy",), 4: ("di",)}
        missing = {1: (0, None), 2: (7, "x"), 3: (7, "x"), 9: (0, None)}
        other = {3: (0, None), 4: (7, "x")}
        self.apart(wide, missing, {}, narrow, other, {1: (0, None), 2: (7, "x")})
        self.apart({1: ("al", 0, "x")}, {1: (0, None)}, {}, {1: ("al",)}, {1: (0, "x")}, {})

    def test_apart_with_extra(self):
        extra = {5: (1, "y"), 0: (2, None)}
        self.apart({1: ("al", 0, "x")}, {}, extra, {1: ("al",)}, {1: (0, "x"), 5: (1, "y"), 0: (2, None)}, {})
        self.apart({}, {1: (0, None)}, extra, {}, extra, {})

    def test_apart_with_missing_and_extra_of_one_key(self):
        self.apart({}, {5: (1, "y")}, {5: (1, "y")}, {}, {5: (1, "y")}, {})

    def test_apart_hidden(self):
        wide = {key: ("al", key, None) for key in (4, 2, 7, 3)}
        self.apart_fails(wide, {}, {3: (0, None), 7: (7, None), 8: (0, "x"), 1: (0, "x")}, 3)
        self.apart_fails(wide, {2: (2, None)}, {2: (2, None)}, 2)
        self.apart_fails(wide, {}, {4: (4, None)}, 4)

    def test_together_with_the_empty_complement(self):
        self.together({1: ("al",), 2: ("bo",)}, {1: (0, "x"), 2: (7, None)}, {}, {},
                      {1: ("al", 0, "x"), 2: ("bo", 7, None)}, {}, {})
        self.together({}, {}, {}, {}, {}, {}, {})

    def test_together_without_a_row_of_the_other_table(self):
        narrow = {1: ("al",), 2: ("bo",), 3: ("cy",)}
        other = {1: (0, "x")}
        wide = {1: ("al", 0, "x"), 2: ("bo", 7, "y"), 3: ("cy", 0, None)}
        for missing in ({2: (7, "y")}, {2: (7, "y"), 1: (5, "z"), 9: (5, "z")}):
            self.together(narrow, other, missing, {}, wide, {2: (7, "y"), 3: (0, None)}, {})

    def test_together_with_rows_of_the_other_table_alone(self):
        other = {1: (0, "x"), 5: (1, "y"), 6: (2, None)}
        for extra in ({}, {5: (9, "z")}, {1: (3, None), 8: (3, None)}):
            new_extra = {5: (1, "y"), 6: (2, None)}
            self.together({1: ("al",)}, other, {5: (4, "w")}, extra, {1: ("al", 0, "x")}, {}, new_extra)
        self.together({}, {5: (1, "y")}, {}, {5: (2, "y")}, {}, {}, {5: (1, "y")})

    def test_together_is_never_refused(self):
        self.together({1: ("al",)}, {1: (0, "x")}, {1: (5, None)}, {1: (6, None)}, {1: ("al", 0, "x")}, {}, {})
        self.together({1: ("al",)}, {}, {}, {1: (6, "z")}, {1: ("al", 0, None)}, {1: (0, None)}, {})


class DecomposeTest(ApartTests, ApartCase):
    def setUp(self):
        columns = [KEY, ("n", "text", False), ("a", "int", False), ("b", "text", True)]
        self.use({"person": described(columns)}, ("decompose", "person", "other", ("a", "b")))

    def go_apart(self, *arguments):
        self.goes_right(*arguments)

    def go_together(self, *arguments):
        self.goes_left(*arguments)

    def apart_fails(self, wide, missing, extra, key):
        self.no_way_right({"person": wide}, {"missing": missing, "extra": extra}, "hidden", key)

    def test_the_moved_columns_have_the_order_of_the_table(self):
        columns = [KEY, ("a", "int", False), ("n", "text", False), ("b", "text", True), ("m", "int", True)]
        for moved in (("a", "b"), ("b", "a")):
            self.use({"person": described(columns)}, ("decompose", "person", "other", moved))
            self.apart({1: (7, "al", "x", 5)}, {}, {}, {1: ("al", 5)}, {1: (7, "x")}, {})
            self.apart({1: (7, "al", "x", 5)}, {1: (7, "x")}, {}, {1: ("al", 5)}, {}, {1: (7, "x")})
            self.together({1: ("al", 5)}, {1: (7, "x")}, {}, {}, {1: (7, "al", "x", 5)}, {}, {})
            self.together({1: ("al", 5)}, {}, {1: (8, "y")}, {}, {1: (8, "al", "y", 5)}, {1: (8, "y")}, {})
            self.together({1: ("al", 5)}, {}, {}, {}, {1: (0, "al", None, 5)}, {1: (0, None)}, {})

    def test_plain_values(self):
        columns = [KEY, ("a", "int", True), ("b", "text", False), ("c", "int", False), ("d", "text", True)]
        self.use({"person": described(columns)}, ("decompose", "person", "other", ("a", "b", "c", "d")))
        plain = (None, "", 0, None)
        self.together({1: ()}, {}, {}, {}, {1: plain}, {1: plain}, {})


class RecomposeTest(ApartTests, ApartCase):
    def setUp(self):
        other = described([("nr", "int", False), ("a", "int", False), ("b", "text", True)])
        self.use({"person": described([KEY, ("n", "text", False)]), "other": other}, ("recompose", "person", "other"))

    def go_apart(self, *arguments):
        self.goes_left(*arguments)

    def go_together(self, *arguments):
        self.goes_right(*arguments)

    def apart_fails(self, wide, missing, extra, key):
        self.no_way_left({"person": wide}, {"missing": missing, "extra": extra}, "hidden", key)

    def test_a_table_with_nothing_but_a_key(self):
        self.use({"person": described([KEY, ("n", "text", False)]), "other": described([KEY])}, self.step)
        self.together({1: ("al",), 2: ("bo",)}, {1: (), 3: ()}, {}, {}, {1: ("al",), 2: ("bo",)}, {2: ()}, {3: ()})
        self.apart({1: ("al",), 2: ("bo",)}, {2: ()}, {3: ()}, {1: ("al",), 2: ("bo",)}, {1: (), 3: ()}, {2: ()})

    def test_plain_values(self):
        other = described([KEY, ("a", "int", True), ("b", "text", False), ("c", "int", False), ("d", "text", True)])
        self.use({"person": described([KEY]), "other": other}, self.step)
        plain = (None, "", 0, None)
        self.together({1: ()}, {}, {}, {}, {1: plain}, {1: plain}, {})


class SidesCase(TableCase):
    """Partition and union. `deal` goes to the side of both tables, `gather` to the side of one table."""

    columns = [KEY, ("age", "int", True), ("word", "text", False)]
    condition = ((("age", "<", 18),), (("word", "=", "y"), ("id", ">", 5)))

    def deal(self, people, sides, table, other):
        new = {key: (rest, key in table) for key, rest in people.items()}
        self.go_apart({"person": people}, {"sides": sides}, {"person": table, "other": other}, {"sides": new})

    def gather(self, table, other, sides, people):
        new = {key: (rest, key in table) for key, rest in people.items()}
        self.go_together({"person": table, "other": other}, {"sides": sides}, {"person": people}, {"sides": new})


class SidesTests:
    def test_deal_by_the_condition(self):
        young = {1: (17, "x"), 7: (20, "y"), 3: (-5, "y")}
        old = {2: (18, "x"), 4: (None, "x"), 5: (20, "y"), 6: (None, "x")}
        self.deal({**young, **old}, {}, young, old)
        self.deal({}, {}, {}, {})

    def test_deal_by_the_flags(self):
        sides = {
            1: ((17, "x"), False), 2: ((20, "x"), True), 3: ((17, "y"), True), 4: ((20, "y"), False),
            9: ((1, "z"), True),
        }
        people = {1: (17, "x"), 2: (20, "x"), 3: (17, "y"), 4: (20, "y")}
        self.deal(people, sides, {2: (20, "x"), 3: (17, "y")}, {1: (17, "x"), 4: (20, "y")})

    def test_flags_of_another_rest_do_not_count(self):
        sides = {1: ((17, "z"), False), 2: ((21, "x"), True), 3: ((None, "x"), True)}
        self.deal({1: (17, "x"), 2: (20, "x"), 3: (50, "x")}, sides, {1: (17, "x")}, {2: (20, "x"), 3: (50, "x")})
        self.deal({}, sides, {}, {})

    def test_gather(self):
        table, other = {1: (17, "x"), 4: (50, "x")}, {2: (20, "x"), 3: (5, "y")}
        for sides in ({}, {1: ((17, "x"), False)}, {1: ((0, "q"), True), 9: ((0, "q"), True)}):
            self.gather(table, other, sides, {**table, **other})
        self.gather({}, {}, {1: ((0, "q"), True)}, {})
        self.gather({}, other, {}, other)
        self.gather(table, {}, {}, table)

    def test_gather_double(self):
        table = {key: (key, "x") for key in (9, 4, 6, 1)}
        self.gather_fails(table, {6: (6, "x"), 9: (1, "y"), 5: (1, "x")}, {}, 6)
        self.gather_fails(table, {1: (0, "x"), 0: (0, "x")}, {1: ((1, "x"), True)}, 1)


class PartitionTest(SidesTests, SidesCase):
    def setUp(self):
        self.use({"person": described(self.columns)}, ("partition", "person", "other", self.condition))

    def go_apart(self, *arguments):
        self.goes_right(*arguments)

    def go_together(self, *arguments):
        self.goes_left(*arguments)

    def gather_fails(self, table, other, sides, key):
        self.no_way_left({"person": table, "other": other}, {"sides": sides}, "double", key)

    def test_conditions_that_hold_always_and_never(self):
        people = {1: (17, "x"), 2: (None, "x")}
        self.use(self.schema, ("partition", "person", "other", ((),)))
        self.deal(people, {}, people, {})
        self.use(self.schema, ("partition", "person", "other", ()))
        self.deal(people, {}, {}, people)

    def test_the_condition_sees_the_key(self):
        self.use(self.schema, ("partition", "person", "other", only("id", ">=", 2)))
        self.deal({1: (1, "x"), 2: (2, "x")}, {}, {2: (2, "x")}, {1: (1, "x")})


class UnionTest(SidesTests, SidesCase):
    def setUp(self):
        schema = {"person": described(self.columns), "other": described(self.columns)}
        self.use(schema, ("union", "person", "other", self.condition))

    def go_apart(self, *arguments):
        self.goes_left(*arguments)

    def go_together(self, *arguments):
        self.goes_right(*arguments)

    def gather_fails(self, table, other, sides, key):
        self.no_way_right({"person": table, "other": other}, {"sides": sides}, "double", key)


class MoveTest(TableCase):
    columns = [KEY, ("age", "int", True), ("word", "text", False)]
    young = {1: (17, "x"), 3: (-5, "y")}
    old = {2: (18, "x"), 4: (None, "x")}

    def setUp(self):
        schema = {"person": described(self.columns), "other": described(self.columns)}
        self.use(schema, ("move", "person", "other", only("age", "<", 18)))

    def rows_right(self, table, other, marks, right_table, right_other, flags):
        new = {key: (table[key], key in flags) for key in table}
        self.goes_right(
            {"person": table, "other": other}, {"marks": marks}, {"person": right_table, "other": right_other},
            {"marks": new})

    def rows_left(self, table, other, marks, left_table, left_other, flags):
        new = {key: (left_table[key], key in flags) for key in left_table}
        self.goes_left(
            {"person": table, "other": other}, {"marks": marks}, {"person": left_table, "other": left_other},
            {"marks": new})

    def test_right_by_the_condition(self):
        self.rows_right({**self.young, **self.old}, {}, {}, self.old, self.young, [1, 3])
        self.rows_right({}, {}, {}, {}, {}, [])

    def test_right_with_rows_in_the_other_table(self):
        other = {8: (3, "z"), 9: (50, "z")}
        self.rows_right({**self.young, **self.old}, other, {}, self.old, {**self.young, **other}, [1, 3])
        self.rows_right({}, other, {9: ((50, "z"), True)}, {}, other, [])

    def test_right_stays_if_the_key_is_in_the_other_table(self):
        other = {1: (99, "z"), 2: (1, "z")}
        people = {**self.young, **self.old}
        expected = {1: (17, "x"), **self.old}
        self.rows_right(people, other, {}, expected, {3: (-5, "y"), **other}, [3])
        marks = {1: ((17, "x"), True), 2: ((18, "x"), True)}
        self.rows_right(people, other, marks, expected, {3: (-5, "y"), **other}, [3])

    def test_right_by_the_marks(self):
        marks = {
            1: ((17, "x"), False), 2: ((18, "x"), True), 3: ((-5, "y"), True), 4: ((None, "x"), False),
            9: ((1, "x"), True),
        }
        people = {**self.young, **self.old}
        self.rows_right(people, {}, marks, {1: (17, "x"), 4: (None, "x")}, {2: (18, "x"), 3: (-5, "y")}, [2, 3])

    def test_right_with_marks_of_another_rest(self):
        marks = {1: ((17, "z"), False), 2: ((19, "x"), True), 3: ((-5, "z"), True), 4: ((None, "z"), False)}
        self.rows_right({**self.young, **self.old}, {}, marks, self.old, self.young, [1, 3])

    def test_left_without_marks(self):
        other = {8: (3, "z"), 9: (50, "z")}
        self.rows_left(self.old, other, {}, self.old, other, [])
        self.rows_left({}, {}, {1: ((1, "x"), True)}, {}, {}, [])

    def test_left_with_marks(self):
        marks = {1: ((17, "x"), True), 3: ((-5, "y"), False), 2: ((18, "x"), False), 7: ((1, "x"), True)}
        other = {1: (17, "x"), 3: (-5, "y"), 9: (50, "z")}
        self.rows_left(self.old, other, marks, {1: (17, "x"), **self.old}, {3: (-5, "y"), 9: (50, "z")}, [1])

    def test_left_looks_at_the_key_of_a_mark_alone(self):
        marks = {1: ((17, "x"), True), 2: ((0, "q"), True)}
        other = {1: (40, "changed")}
        self.rows_left({2: (18, "x")}, other, marks, {1: (40, "changed"), 2: (18, "x")}, {}, [1])

    def test_left_if_the_key_is_in_both_tables(self):
        marks = {1: ((17, "x"), True), 3: ((-5, "y"), True)}
        table, other = {1: (20, "a")}, {1: (17, "x"), 3: (-5, "y")}
        self.rows_left(table, other, marks, {1: (20, "a"), 3: (-5, "y")}, {1: (17, "x")}, [3])

    def test_conditions_that_hold_always_and_never(self):
        people = {**self.young, **self.old}
        self.use(self.schema, ("move", "person", "other", ((),)))
        self.rows_right(people, {}, {}, {}, people, [1, 2, 3, 4])
        self.use(self.schema, ("move", "person", "other", ()))
        self.rows_right(people, {}, {}, people, {}, [])

    def test_the_condition_sees_the_key(self):
        self.use(self.schema, ("move", "person", "other", only("id", ">=", 2)))
        self.rows_right({1: (1, "x"), 2: (2, "x")}, {}, {}, {1: (1, "x")}, {2: (2, "x")}, [2])


if __name__ == "__main__":
    unittest.main()
