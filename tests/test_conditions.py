"""Points 8 and 9: clauses and conditions."""

import unittest

from lenstree.conditions import fits, holds, mentions, renamed
from tests.support import called, only

COLUMNS = [("id", "int", False), ("age", "int", True), ("note", "text", True), ("word", "text", False)]
NAMES = ["id", "age", "note", "word"]


def holds_for(column, operator, operand, value):
    return holds(only(column, operator, operand), ["id", column, "last"], (1, value, "z"))


class ClauseTest(unittest.TestCase):
    def test_comparing_integers(self):
        expected = {
            "=": [False, True, False], "!=": [True, False, True], "<": [True, False, False],
            "<=": [True, True, False], ">": [False, False, True], ">=": [False, True, True],
        }
        for operator, results in expected.items():
            for operand in (-12, 0, 9, 999999998):
                found = [holds_for("age", operator, operand, operand + step) for step in (-1, 0, 1)]
                self.assertEqual(found, results, operator)

    def test_integers_compare_by_size(self):
        self.assertIs(holds_for("age", "<", 10, 9), True)
        self.assertIs(holds_for("age", ">", -10, -9), True)

    def test_comparing_texts(self):
        expected = {
            "=": [False, True, False], "!=": [True, False, True], "<": [True, False, False],
            "<=": [True, True, False], ">": [False, False, True], ">=": [False, True, True],
        }
        for operator, results in expected.items():
            for below, operand, above in (("a", "b", "c"), ("", " ", "~"), ("10", "9", "90"), ("B", "a", "aa")):
                found = [holds_for("note", operator, operand, value) for value in (below, operand, above)]
                self.assertEqual(found, results, operator)

    def test_null_compares_with_nothing(self):
        for operator in ("=", "!=", "<", "<=", ">", ">="):
            self.assertIs(holds_for("age", operator, 0, None), False, operator)
            self.assertIs(holds_for("note", operator, "", None), False, operator)

    def test_null_and_given(self):
        for value in (0, -1, "", "x"):
            self.assertIs(holds_for("age", "null", None, value), False)
            self.assertIs(holds_for("age", "given", None, value), True)
        self.assertIs(holds_for("age", "null", None, None), True)
        self.assertIs(holds_for("age", "given", None, None), False)

    def test_each_column_is_found_by_its_name(self):
        row = (1, 2, "three", "four")
        for name, value in zip(NAMES, row):
            self.assertIs(holds(only(name, "=", value), NAMES, row), True)
            for other in NAMES:
                if other != name:
                    self.assertIs(holds(only(name, "=", row[NAMES.index(other)]), NAMES, row), False)


class HoldsTest(unittest.TestCase):
    def test_example_of_the_document(self):
        condition = ((("age", ">=", 18),), (("note", "null", None),))
        self.assertIs(holds(condition, ["id", "age", "note"], (1, 7, None)), True)

    def test_no_alternative_and_no_clause(self):
        self.assertIs(holds((), NAMES, (1, 2, "a", "b")), False)
        self.assertIs(holds(((),), NAMES, (1, 2, "a", "b")), True)
        self.assertIs(holds(((), ()), NAMES, (1, None, None, "")), True)

    def test_all_clauses_of_an_alternative_must_hold(self):
        condition = ((("age", ">=", 5), ("age", "<", 9), ("note", "given", None), ("word", "!=", "")),)
        self.assertIs(holds(condition, NAMES, (1, 5, "a", "b")), True)
        for row in ((1, 4, "a", "b"), (1, 9, "a", "b"), (1, 5, None, "b"), (1, 5, "a", "")):
            self.assertIs(holds(condition, NAMES, row), False, row)

    def test_one_alternative_must_hold(self):
        condition = (
            (("age", "=", 1), ("word", "=", "one")), (("age", "=", 2), ("word", "=", "two")),
            (("age", "=", 3),), (("note", "=", "any"),),
        )
        for row in ((0, 1, None, "one"), (0, 2, None, "two"), (0, 3, None, "x"), (0, None, "any", "x")):
            self.assertIs(holds(condition, NAMES, row), True, row)
        for row in ((0, 1, None, "two"), (0, 2, None, "one"), (0, 4, "no", "one"), (0, None, None, "")):
            self.assertIs(holds(condition, NAMES, row), False, row)

    def test_an_empty_alternative_beside_one_that_fails(self):
        self.assertIs(holds(((("age", "=", 1),), ()), NAMES, (1, 2, "a", "b")), True)
        self.assertIs(holds(((), (("age", "=", 1),)), NAMES, (1, 2, "a", "b")), True)


class FitsTest(unittest.TestCase):
    def test_conditions_that_fit(self):
        for condition in (
            (), ((),), ((), ()), only("id", "=", 1), only("note", "<", "x"), only("note", "null", None),
            only("word", "=", ""),
            ((("age", "=", -999999999), ("note", "=", "~" * 30)), (("word", "given", None),)),
        ):
            self.assertIs(called(self, fits, condition, COLUMNS), True, condition)

    def test_unknown_column(self):
        for name in ("nope", "", "ID", "int", "text"):
            self.assertIs(fits(only(name, "null", None), COLUMNS), False, name)
        self.assertIs(fits(only("id", "=", 1), []), False)
        self.assertIs(fits(((),), []), True)

    def test_operand_of_the_other_kind(self):
        self.assertIs(fits(only("age", "=", "7"), COLUMNS), False)
        self.assertIs(fits(only("note", "=", 7), COLUMNS), False)
        self.assertIs(fits(only("word", "=", 0), COLUMNS), False)
        self.assertIs(fits(only("id", "=", ""), COLUMNS), False)

    def test_operand_that_is_no_value(self):
        for operand in (True, False, 1000000000, -1000000000, [1], (1,), 1.0):
            self.assertIs(fits(only("age", "=", operand), COLUMNS), False, operand)
        for operand in ("x" * 31, "50%", "a\tb", "a\n", "\u00e9", b"a"):
            self.assertIs(fits(only("note", "=", operand), COLUMNS), False, operand)

    def test_operand_none_fits_each_column_with_each_operator(self):
        for name in NAMES:
            for operator in ("=", "!=", "<", "<=", ">", ">=", "null", "given"):
                self.assertIs(fits(only(name, operator, None), COLUMNS), True, (name, operator))

    def test_nothing_else_is_looked_at(self):
        self.assertIs(fits(only("age", "null", 7), COLUMNS), True)
        self.assertIs(fits(only("note", "given", "x"), COLUMNS), True)
        self.assertIs(fits(only("age", "~", 7), COLUMNS), True)
        clause = ("age", "=", 7)
        self.assertIs(fits((((clause,) * 5,) * 5), COLUMNS), True)

    def test_each_clause_is_looked_at(self):
        good, bad = ("age", "=", 7), ("age", "=", "7")
        for place in range(4):
            clauses = [good] * 4
            clauses[place] = bad
            self.assertIs(fits((tuple(clauses),), COLUMNS), False, place)
            self.assertIs(fits(tuple([(clause,) for clause in clauses]), COLUMNS), False, place)


class MentionsTest(unittest.TestCase):
    def test_mentions(self):
        condition = ((("age", "=", 1), ("note", "=", "word")), (), (("id", "null", None),))
        for name in ("age", "note", "id"):
            self.assertIs(mentions(condition, name), True, name)
        for name in ("word", "null", "=", ""):
            self.assertIs(mentions(condition, name), False, name)

    def test_nothing_is_mentioned(self):
        self.assertIs(mentions((), "age"), False)
        self.assertIs(mentions(((),), "age"), False)


class RenamedTest(unittest.TestCase):
    def test_all_clauses_follow(self):
        condition = ((("age", "=", 1), ("note", "=", "age"), ("age", "<", 9)), (), (("age", "null", None),))
        expected = ((("years", "=", 1), ("note", "=", "age"), ("years", "<", 9)), (), (("years", "null", None),))
        self.assertEqual(called(self, renamed, condition, "age", "years"), expected)

    def test_other_columns_stay(self):
        condition = ((("age", "=", 1),), (("ages", "given", None), ("old", "=", "age")))
        self.assertEqual(renamed(condition, "note", "years"), condition)
        self.assertEqual(renamed((), "a", "b"), ())
        self.assertEqual(renamed(((),), "a", "b"), ((),))

    def test_the_result_is_a_condition(self):
        result = renamed(only("age", "=", 1), "age", "years")
        self.assertIs(type(result), tuple)
        self.assertIs(type(result[0]), tuple)
        self.assertIs(type(result[0][0]), tuple)


if __name__ == "__main__":
    unittest.main()
