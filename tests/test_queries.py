"""Point 52: the columns of the answers of queries, and the errors of queries."""

import unittest

from lenstree.errors import QueryError
from lenstree.queries import query_columns
from tests.query_case import (
    AGE, BAD_NAMES, BARE, CAUSES, FAILING, KEY, NAME, OWNER, PERSON, PET, SCHEMA, TAG, around,
)
from tests.support import called, containers, only, raised, wreck


class QueryCase(unittest.TestCase):
    def columns(self, query, *expected):
        found = called(self, query_columns, SCHEMA, query)
        self.assertIs(type(found), list)
        self.assertEqual(found, list(expected))
        self.assertTrue(all([type(column) is tuple and type(column[2]) is bool for column in found]))

    def fails(self, code, query):
        with self.subTest(query=query):
            self.assertEqual(vars(raised(self, QueryError, query_columns, SCHEMA, query)), {"code": code})


class ColumnsTest(QueryCase):
    def test_table(self):
        self.columns(PERSON, KEY, NAME, AGE)
        self.columns(PET, TAG, OWNER)
        self.columns(BARE, ("only", "int", False))

    def test_where(self):
        self.columns(("where", PERSON, only("age", "=", 3)), KEY, NAME, AGE)
        self.columns(("where", PERSON, ()), KEY, NAME, AGE)
        self.columns(("where", PERSON, ((),)), KEY, NAME, AGE)
        # A condition does not make a column less nullable.
        self.columns(("where", PERSON, only("name", "given", None)), KEY, NAME, AGE)
        self.columns(("where", PERSON, ((("id", "<", 3), ("name", "=", "")), (("age", "null", None),))),
                     KEY, NAME, AGE)

    def test_select(self):
        self.columns(("select", PERSON, ("age", "id")), AGE, KEY)
        self.columns(("select", PERSON, ("name",)), NAME)
        self.columns(("select", PERSON, ("id", "name", "age")), KEY, NAME, AGE)

    def test_rename(self):
        self.columns(("rename", PERSON, "name", "n_0"), KEY, ("n_0", "text", True), AGE)
        self.columns(("rename", PERSON, "id", "a" * 20), ("a" * 20, "int", False), NAME, AGE)
        self.columns(("rename", ("rename", PERSON, "id", "x"), "age", "id"), ("x", "int", False), NAME, KEY)

    def test_join(self):
        self.columns(("join", PERSON, PET, "id", "owner"), KEY, NAME, AGE, TAG, OWNER)
        self.columns(("join", PET, PERSON, "owner", "age"), TAG, OWNER, KEY, NAME, AGE)
        self.columns(("join", PET, PERSON, "tag", "name"), TAG, OWNER, KEY, NAME, AGE)

    def test_append(self):
        """The names are those of the first query; a column is nullable if one of the two is."""
        ids = ("rename", ("select", PERSON, ("id",)), "id", "number")
        owners = ("select", PET, ("owner",))
        self.columns(("append", ids, owners), ("number", "int", True))
        self.columns(("append", owners, ids), ("owner", "int", True))
        self.columns(("append", ids, ids), ("number", "int", False))
        self.columns(("append", owners, owners), OWNER)
        swapped = ("select", PET, ("owner", "tag"))
        self.columns(("append", swapped, ("select", PERSON, ("id", "name"))), OWNER, ("tag", "text", True))
        self.columns(("append", ("select", PERSON, ("id", "name")), swapped), ("id", "int", True), NAME)
        self.columns(("append", PERSON, PERSON), KEY, NAME, AGE)

    def test_minus(self):
        """The columns are those of the first query, whatever the second one's are."""
        ids = ("select", PERSON, ("id",))
        owners = ("select", PET, ("owner",))
        self.columns(("minus", ids, owners), KEY)
        self.columns(("minus", owners, ids), OWNER)

    def test_distinct_order_and_limit(self):
        for query in (("distinct", PERSON), ("order", PERSON, (("age", True),)),
                      ("order", PERSON, (("name", False), ("id", True), ("name", True))), ("limit", PERSON, 0),
                      ("limit", PERSON, 1000)):
            self.columns(query, KEY, NAME, AGE)

    def test_group(self):
        self.columns(("group", PERSON, ("age", "name"), ()), AGE, NAME)
        sums = (("count", "name", "many"), ("sum", "id", "total"), ("least", "name", "first"),
                ("greatest", "age", "oldest"), ("greatest", "name", "last"))
        found = [("many", "int", False), ("total", "int", False), ("first", "text", True), ("oldest", "int", True),
                 ("last", "text", True)]
        self.columns(("group", PERSON, (), sums), *found)
        self.columns(("group", PERSON, ("name",), sums), NAME, *found)
        # The name of a column of q may be used again, if it is not a name of the group.
        self.columns(("group", PERSON, ("name",), (("sum", "age", "age"), ("count", "name", "id"))),
                     NAME, AGE, KEY)
        self.columns(("group", PET, ("owner",), (("sum", "owner", "sum"),)), OWNER, ("sum", "int", False))

    def test_nested(self):
        joined = ("join", ("where", PERSON, only("age", ">", 3)), ("rename", PET, "tag", "pet"), "id", "owner")
        grouped = ("group", joined, ("name",), (("count", "pet", "pets"), ("least", "pet", "pet")))
        self.columns(("limit", ("order", grouped, (("pets", False),)), 3), NAME, ("pets", "int", False),
                     ("pet", "text", True))
        deep = PERSON
        for _ in range(11):
            deep = ("distinct", deep)
        self.columns(deep, KEY, NAME, AGE)

    def test_what_is_handed_out_can_be_changed(self):
        for query in (PERSON, ("where", PERSON, ()), ("distinct", PERSON), ("append", PERSON, PERSON)):
            first, second = query_columns(SCHEMA, query), query_columns(SCHEMA, query)
            self.assertEqual(containers(first) & containers(second), set())
            wreck(first)
            self.columns(query, KEY, NAME, AGE)


class ErrorsTest(QueryCase):
    def test_each_cause(self):
        for code, query in CAUSES:
            self.fails(code, query)

    def test_names_that_are_none(self):
        for name in BAD_NAMES:
            self.fails("name", ("rename", PERSON, "age", name))
            self.fails("name", ("group", PERSON, (), (("count", "id", name),)))

    def test_inner_errors_come_first(self):
        for code, query in FAILING:
            self.fails(code, query)
            for outer in around(query):
                self.fails(code, outer)
                self.fails(code, ("distinct", ("limit", outer, 1)))

    def test_those_of_the_first_query_before_those_of_the_second_one(self):
        for code, first in FAILING:
            for _, second in FAILING:
                self.fails(code, ("join", first, second, "nowhere", "nowhere"))
                self.fails(code, ("append", first, second))
                self.fails(code, ("minus", ("distinct", first), second))

    def test_what_is_no_error(self):
        """Nothing but the columns and the operands of a condition is looked at; counts beyond the limit are taken."""
        self.columns(("limit", PERSON, 2000), KEY, NAME, AGE)
        self.columns(("where", PERSON, (((("id", "null", None)),) * 5,) * 5), KEY, NAME, AGE)
        wide = ("join", PERSON, PET, "id", "owner")
        for number in range(3):
            copied = ("rename", ("rename", PET, "tag", f"tag{number}"), "owner", f"owner{number}")
            wide = ("join", wide, copied, "id", f"owner{number}")
        self.assertEqual(len(query_columns(SCHEMA, wide)), 11)


if __name__ == "__main__":
    unittest.main()
