"""Point 52: the answers of queries."""

import unittest

from lenstree.answers import answer
from lenstree.errors import QueryError
from lenstree.queries import query_columns
from lenstree.states import empty_state
from tests.query_case import (
    BAD_NAMES, BARE, CAUSES, FAILING, PERSON, PET, SCHEMA, around,
)
from tests.support import called, containers, described, only, raised, wreck

STATE = {
    "person": {3: ("cy", 7), 1: ("al", 30), 2: (None, 7), -4: ("al", 7), 10: (None, 30)},
    "pet": {"rex": (1,), "Rex": (3,), "": (None,), "tom": (1,), "ace": (99,)},
    "bare": {},
}
PEOPLE = [(-4, "al", 7), (1, "al", 30), (2, None, 7), (3, "cy", 7), (10, None, 30)]
PETS = [("", None), ("Rex", 3), ("ace", 99), ("rex", 1), ("tom", 1)]
NAMES = ("select", PERSON, ("name",))
AGES = ("select", PERSON, ("age",))
OWNERS = ("select", PET, ("owner",))


class AnswerCase(unittest.TestCase):
    def answers(self, query, expected, state=STATE):
        found = called(self, answer, SCHEMA, state, query)
        self.assertIs(type(found), list)
        self.assertEqual(found, expected)
        self.assertTrue(all([type(row) is tuple for row in found]))
        width = len(query_columns(SCHEMA, query))
        self.assertTrue(all([len(row) == width for row in found]))

    def fails(self, code, query):
        with self.subTest(query=query):
            for state in (STATE, empty_state(SCHEMA)):
                self.assertEqual(vars(raised(self, QueryError, answer, SCHEMA, state, query)), {"code": code})


class TableTest(AnswerCase):
    def test_rows_in_ascending_order_of_keys(self):
        self.answers(PERSON, PEOPLE)
        self.answers(PET, PETS)
        self.answers(BARE, [])
        self.answers(BARE, [(-3,), (2,), (10,)], {"bare": {10: (), -3: (), 2: ()}, "person": {}, "pet": {}})


class WhereTest(AnswerCase):
    def test_rows_for_which_the_condition_holds(self):
        self.answers(("where", PERSON, only("age", "=", 7)), [PEOPLE[0], PEOPLE[2], PEOPLE[3]])
        self.answers(("where", PERSON, ((("age", "=", 7), ("name", "given", None)), (("id", ">", 9),))),
                     [PEOPLE[0], PEOPLE[3], PEOPLE[4]])
        self.answers(("where", PERSON, ((),)), PEOPLE)
        self.answers(("where", PERSON, ()), [])

    def test_null(self):
        self.answers(("where", PERSON, only("name", "null", None)), [PEOPLE[2], PEOPLE[4]])
        for operator in ("=", "!=", "<", "<=", ">", ">="):
            found = answer(SCHEMA, STATE, ("where", PERSON, only("name", operator, "al")))
            self.assertNotIn(None, [row[1] for row in found])
        self.answers(("where", PERSON, only("name", "!=", "al")), [PEOPLE[3]])

    def test_the_order_of_the_inner_query(self):
        self.answers(("where", ("order", PERSON, (("id", False),)), only("age", "=", 7)),
                     [PEOPLE[3], PEOPLE[2], PEOPLE[0]])


class SelectTest(AnswerCase):
    def test_columns_in_the_order_of_the_names(self):
        self.answers(("select", PERSON, ("age", "id")), [(7, -4), (30, 1), (7, 2), (7, 3), (30, 10)])

    def test_rows_may_be_equal(self):
        self.answers(NAMES, [("al",), ("al",), (None,), ("cy",), (None,)])
        self.answers(("select", PERSON, ("age",)), [(7,), (30,), (7,), (7,), (30,)])

    def test_behind_rename(self):
        self.answers(("select", ("rename", ("rename", PERSON, "id", "x"), "age", "id"), ("id", "x")),
                     [(7, -4), (30, 1), (7, 2), (7, 3), (30, 10)])


class RenameTest(AnswerCase):
    def test_the_rows_stay(self):
        self.answers(("rename", PERSON, "name", "n"), PEOPLE)
        self.answers(("where", ("rename", PERSON, "name", "n"), only("n", "=", "cy")), [PEOPLE[3]])


class JoinTest(AnswerCase):
    def test_pairs_of_rows(self):
        self.answers(("join", PERSON, PET, "id", "owner"),
                     [(1, "al", 30, "rex", 1), (1, "al", 30, "tom", 1), (3, "cy", 7, "Rex", 3)])
        self.answers(("join", PET, PERSON, "owner", "id"),
                     [("Rex", 3, 3, "cy", 7), ("rex", 1, 1, "al", 30), ("tom", 1, 1, "al", 30)])

    def test_the_orders_of_both_queries(self):
        down = ("order", PET, (("tag", False),))
        self.answers(("join", ("order", PERSON, (("id", False),)), down, "id", "owner"),
                     [(3, "cy", 7, "Rex", 3), (1, "al", 30, "tom", 1), (1, "al", 30, "rex", 1)])

    def test_null_joins_nothing(self):
        other = ("rename", ("rename", NAMES, "name", "n"), "n", "other")
        self.answers(("join", NAMES, other, "name", "other"),
                     [("al", "al"), ("al", "al"), ("al", "al"), ("al", "al"), ("cy", "cy")])

    def test_equal_rows(self):
        other = ("rename", AGES, "age", "years")
        self.answers(("join", AGES, other, "age", "years"),
                     [(7, 7)] * 3 + [(30, 30)] * 2 + [(7, 7)] * 6 + [(30, 30)] * 2)

    def test_no_rows(self):
        self.answers(("join", BARE, PERSON, "only", "id"), [])
        self.answers(("join", PERSON, BARE, "id", "only"), [])


class AppendTest(AnswerCase):
    def test_one_behind_the_other(self):
        self.answers(("append", OWNERS, AGES), [(None,), (3,), (99,), (1,), (1,), (7,), (30,), (7,), (7,), (30,)])
        self.answers(("append", PERSON, PERSON), PEOPLE + PEOPLE)
        self.answers(("append", BARE, BARE), [])
        self.answers(("append", BARE, OWNERS), [(None,), (3,), (99,), (1,), (1,)])

    def test_values_of_the_second_query_under_the_names_of_the_first_one(self):
        both = ("append", ("select", PET, ("owner", "tag")), ("select", PERSON, ("age", "name")))
        self.answers(("where", both, ((("owner", "=", 7), ("tag", "null", None)),)), [(7, None)])


class MinusTest(AnswerCase):
    def test_rows_that_equal_no_row_of_the_second_query(self):
        self.answers(("minus", PERSON, ("where", PERSON, only("age", "=", 7))), [PEOPLE[1], PEOPLE[4]])
        self.answers(("minus", NAMES, ("where", NAMES, only("name", "=", "cy"))), [("al",), ("al",), (None,), (None,)])
        self.answers(("minus", PERSON, PERSON), [])
        self.answers(("minus", PERSON, ("where", PERSON, ())), PEOPLE)
        self.answers(("minus", BARE, OWNERS), [])

    def test_null_equals_null(self):
        self.answers(("minus", NAMES, ("where", NAMES, only("name", "null", None))), [("al",), ("al",), ("cy",)])
        self.answers(("minus", OWNERS, AGES), [(None,), (3,), (99,), (1,), (1,)])


class DistinctTest(AnswerCase):
    def test_without_those_that_equal_an_earlier_one(self):
        self.answers(("distinct", NAMES), [("al",), (None,), ("cy",)])
        self.answers(("distinct", ("select", PERSON, ("age", "name"))), [(7, "al"), (30, "al"), (7, None), (7, "cy"),
                                                                      (30, None)])
        self.answers(("distinct", PERSON), PEOPLE)
        self.answers(("distinct", BARE), [])


class OrderTest(AnswerCase):
    def test_up_and_down(self):
        self.answers(("order", PERSON, (("age", True),)), [PEOPLE[k] for k in (0, 2, 3, 1, 4)])
        self.answers(("order", PERSON, (("age", False),)), [PEOPLE[k] for k in (1, 4, 0, 2, 3)])
        self.answers(("order", PERSON, (("id", False),)), list(reversed(PEOPLE)))

    def test_null_first_and_last(self):
        self.answers(("order", PERSON, (("name", True),)), [PEOPLE[k] for k in (2, 4, 0, 1, 3)])
        self.answers(("order", PERSON, (("name", False),)), [PEOPLE[k] for k in (3, 0, 1, 2, 4)])

    def test_several_terms(self):
        self.answers(("order", PERSON, (("age", False), ("name", True))), [PEOPLE[k] for k in (4, 1, 2, 0, 3)])
        self.answers(("order", PERSON, (("age", True), ("name", False))), [PEOPLE[k] for k in (3, 0, 2, 1, 4)])
        self.answers(("order", PERSON, (("name", False), ("age", False))), [PEOPLE[k] for k in (3, 1, 0, 4, 2)])
        self.answers(("order", PERSON, (("name", True), ("age", True), ("id", False))),
                     [PEOPLE[k] for k in (2, 4, 0, 1, 3)])

    def test_ties_keep_their_order(self):
        down = ("order", PERSON, (("id", False),))
        self.answers(("order", down, (("age", True),)), [PEOPLE[k] for k in (3, 2, 0, 4, 1)])
        self.answers(("order", down, (("age", False),)), [PEOPLE[k] for k in (4, 1, 3, 2, 0)])
        self.answers(("order", down, (("name", False), ("age", True))), [PEOPLE[k] for k in (3, 0, 1, 2, 4)])

    def test_a_name_twice(self):
        """The first term with a name counts; the second one finds only ties."""
        self.answers(("order", PERSON, (("age", True), ("age", False))), [PEOPLE[k] for k in (0, 2, 3, 1, 4)])

    def test_texts(self):
        self.answers(("order", PET, (("tag", False),)), list(reversed(PETS)))


class LimitTest(AnswerCase):
    def test_the_first_rows(self):
        for count in (0, 1, 4, 5, 6, 1000, 1001):
            self.answers(("limit", PERSON, count), PEOPLE[:count])
        self.answers(("limit", ("order", PERSON, (("id", False),)), 2), [PEOPLE[4], PEOPLE[3]])


class GroupTest(AnswerCase):
    def test_groups_in_the_order_of_their_first_rows(self):
        self.answers(("group", PERSON, ("name",), ()), [("al",), (None,), ("cy",)])
        self.answers(("group", PERSON, ("age", "name"), (("count", "id", "many"),)),
                     [(7, "al", 1), (30, "al", 1), (7, None, 1), (7, "cy", 1), (30, None, 1)])
        down = ("order", PERSON, (("id", False),))
        self.answers(("group", down, ("name",), (("least", "id", "first"), ("greatest", "id", "last"))),
                     [(None, 2, 10), ("cy", 3, 3), ("al", -4, 1)])

    def test_each_function(self):
        sums = (("count", "owner", "many"), ("sum", "owner", "total"), ("least", "owner", "first"),
                ("greatest", "owner", "last"), ("least", "tag", "a"), ("greatest", "tag", "z"))
        self.answers(("group", PET, (), sums), [(4, 104, 1, 99, "", "tom")])
        self.answers(("group", PET, ("owner",), sums), [
            (None, 0, 0, None, None, "", ""), (3, 1, 3, 3, 3, "Rex", "Rex"), (99, 1, 99, 99, 99, "ace", "ace"),
            (1, 2, 2, 1, 1, "rex", "tom"),
        ])

    def test_null(self):
        """Null agrees with null; it is not counted, and no least or greatest value."""
        self.answers(("group", PERSON, ("name",), (("count", "name", "n"), ("count", "id", "m"), ("sum", "age", "s"))),
                     [("al", 2, 2, 37), (None, 0, 2, 37), ("cy", 1, 1, 7)])
        nobody = ("where", PERSON, only("name", "null", None))
        self.answers(("group", nobody, (), (("least", "name", "a"), ("greatest", "name", "b"), ("count", "name", "c"))),
                     [(None, None, 0)])

    def test_no_rows(self):
        sums = (("count", "only", "c"), ("sum", "only", "s"), ("least", "only", "l"), ("greatest", "only", "g"))
        self.answers(("group", BARE, (), sums), [(0, 0, None, None)])
        self.answers(("group", BARE, ("only",), sums), [])
        self.answers(("group", BARE, ("only",), ()), [])
        self.answers(("group", BARE, (), (("sum", "only", "only"),)), [(0,)])

    def test_sums_beyond_the_values(self):
        state = {"person": {key: ("x", 999999999) for key in range(5)}, "pet": {}, "bare": {}}
        total = ("group", PERSON, (), (("sum", "age", "total"), ("count", "age", "n")))
        self.answers(total, [(4999999995, 5)], state)
        self.answers(("where", total, only("total", ">", 999999999)), [(4999999995, 5)], state)
        self.answers(("group", total, (), (("sum", "total", "all"), ("greatest", "total", "most"))),
                     [(4999999995, 4999999995)], state)
        low = {"person": {key: ("x", -999999999) for key in range(3)}, "pet": {}, "bare": {}}
        self.answers(("select", total, ("total",)), [(-2999999997,)], low)

    def test_equal_rows(self):
        self.answers(("group", ("append", NAMES, NAMES), ("name",), (("count", "name", "n"),)),
                     [("al", 4), (None, 0), ("cy", 2)])

    def test_the_example_of_the_document(self):
        person = described([("id", "int", False), ("town", "text", True)])
        state = {"person": {1: ("ulm",), 2: (None,), 3: ("ulm",)}}
        query = ("group", ("table", "person"), ("town",), (("count", "id", "people"),))
        self.assertEqual(answer({"person": person}, state, query), [("ulm", 2), (None, 1)])


class NestedTest(AnswerCase):
    def test_twelve_deep(self):
        query = PERSON
        for number in range(11):
            query = ("rename", query, "age" if number == 0 else f"age{number - 1}", f"age{number}")
        self.answers(("select", query, ("age10",)), [(7,), (30,), (7,), (7,), (30,)])

    def test_a_query_in_several_parts(self):
        """Who has most pets, and who has none."""
        joined = ("join", PERSON, PET, "id", "owner")
        many = ("order", ("group", joined, ("id", "name"), (("count", "tag", "pets"),)), (("pets", False),))
        self.answers(("limit", many, 1), [(1, "al", 2)])
        self.answers(("minus", ("select", PERSON, ("id",)), ("select", joined, ("id",))), [(-4,), (2,), (10,)])

    def test_equal_answers_however_a_query_is_nested(self):
        one, two = only("age", "=", 7), only("name", "given", None)
        both = ((("age", "=", 7), ("name", "given", None)),)
        terms = (("name", False), ("age", True))
        pairs = [
            (("where", ("where", PERSON, one), two), ("where", ("where", PERSON, two), one)),
            (("where", ("where", PERSON, one), two), ("where", PERSON, both)),
            (("select", ("where", PERSON, one), ("name", "age")), ("where", ("select", PERSON, ("name", "age")), one)),
            (("order", ("order", PERSON, terms[1:]), terms[:1]), ("order", PERSON, terms)),
            (("where", ("order", PERSON, terms), two), ("order", ("where", PERSON, two), terms)),
            (("limit", ("limit", PERSON, 4), 2), ("limit", ("limit", PERSON, 2), 4)),
            (("distinct", ("distinct", NAMES)), ("distinct", NAMES)),
            (("append", ("append", NAMES, NAMES), NAMES), ("append", NAMES, ("append", NAMES, NAMES))),
            (("where", ("append", PERSON, PERSON), one), ("append", ("where", PERSON, one), ("where", PERSON, one))),
            (("join", ("where", PERSON, one), PET, "id", "owner"),
             ("where", ("join", PERSON, PET, "id", "owner"), one)),
            (("distinct", ("select", PERSON, ("age", "name"))), ("group", PERSON, ("age", "name"), ())),
            (("minus", PERSON, ("where", PERSON, one)), ("where", PERSON, only("age", "!=", 7))),
        ]
        for first, second in pairs:
            with self.subTest(first=first):
                self.assertEqual(answer(SCHEMA, STATE, first), answer(SCHEMA, STATE, second))
                self.assertNotEqual(answer(SCHEMA, STATE, first), [])


class ErrorsTest(AnswerCase):
    def test_each_cause(self):
        for code, query in CAUSES:
            self.fails(code, query)
        for name in BAD_NAMES:
            self.fails("name", ("rename", PERSON, "age", name))

    def test_inner_errors_come_first(self):
        for code, query in FAILING:
            for outer in around(query):
                self.fails(code, outer)
            for _, second in FAILING:
                self.fails(code, ("join", query, second, "nowhere", "nowhere"))
                self.fails(code, ("append", query, ("distinct", second)))
                self.fails(code, ("minus", query, second))


class ArgumentsTest(AnswerCase):
    def test_what_is_handed_out_can_be_changed(self):
        for query in (PERSON, ("where", PERSON, ((),)), ("rename", PERSON, "id", "x"), ("limit", PERSON, 9),
                      ("distinct", PERSON), ("append", PERSON, ("where", PERSON, ())),
                      ("minus", PERSON, ("limit", PERSON, 0))):
            first, second = answer(SCHEMA, STATE, query), answer(SCHEMA, STATE, query)
            self.assertEqual(containers(first) & containers(second), set())
            wreck(first)
            self.answers(query, PEOPLE)


if __name__ == "__main__":
    unittest.main()
