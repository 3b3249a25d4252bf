"""Points 21 to 32: the form of complements."""

import copy
import unittest

from lenstree.forms import fits_step
from lenstree.lens import empty_complement, put_left, put_right
from lenstree.steps import target_schema
from tests.support import called, described, only
from tests.test_lens import CASES

KEY = ("id", "int", False)
WORD = ("word", "text", False)
# Columns of both kinds, nullable and not.
COLUMNS = [KEY, ("n", "int", True), ("t", "text", True), ("m", "int", False), ("u", "text", False)]
REST = (None, None, 0, "")
REST_TOO = (-999999999, "x" * 30, 999999999, "~")
PERSON = described(COLUMNS)
CODED = described([("code", "text", False), ("a", "int", False)])
SCHEMA = {"person": PERSON, "coded": CODED}
CONDITION = only("id", ">", 0)

# What is no value of any kind, or of no use in the place of a tuple or a value.
NO_VALUES = (
    True, False, "x" * 31, "%", "\n", 1000000000, -1000000000, (), (1,), ("x",), ((),), [], ["x"], {}, b"x", 1.0,
)
BAD_RESTS = (
    None, (), 1, "", (None,), (None, None, 0), (None, None, 0, "", ""), (None, None, 0, "", None),
    [None, None, 0, ""], (None, None, None, ""), (None, None, 0, None), ("1", None, 0, ""), (None, 1, 0, ""),
    (None, None, "0", ""), (None, None, 0, 0), (True, None, 0, ""), (None, None, False, ""), (None, True, 0, ""),
    (None, None, 0, "%"), (None, "x" * 31, 0, ""), (1000000000, None, 0, ""), (1, None, None, 0, ""), REST + REST,
    (REST,), True, {},
)


def bad_for(column):
    """Return some of what does not fit the column."""
    _, kind, nullable = column
    wrong = ("", "1") if kind == "int" else (0, 1)
    return NO_VALUES + wrong + (() if nullable else (None,))


def bad_keys(kind):
    """Return what is no key of this kind."""
    wrong = ("", "1") if kind == "int" else (0, 1)
    return wrong + (None, True, False, 1000000000, "x" * 31, "%", (1,), ())


class FormCase(unittest.TestCase):
    schema = SCHEMA

    def fits(self, step, complement):
        self.assertIs(called(self, fits_step, self.schema, step, complement), True, (step, complement))

    def fails(self, step, complement):
        self.assertIs(called(self, fits_step, self.schema, step, complement), False, (step, complement))

    def entry(self, step, name, kind, goods, bads):
        """See which keys (of this kind) and which items an entry of the complement of the step may have."""
        target_schema(self.schema, step)
        keys = (5, 0, -999999999) if kind == "int" else ("a", "", "x" * 30)
        empty = empty_complement(step)
        self.fits(step, empty)
        for item in goods:
            for key in keys:
                self.fits(step, {**empty, name: {key: item}})
            self.fits(step, {**empty, name: {key: item for key in keys}})
            for key in bad_keys(kind):
                self.fails(step, {**empty, name: {key: item}})
                self.fails(step, {**empty, name: {keys[0]: item, key: item}})
        for item in bads:
            self.fails(step, {**empty, name: {keys[0]: item}})
            self.fails(step, {**empty, name: {keys[0]: goods[0], keys[1]: item, keys[2]: goods[0]}})


class ColumnFormsTest(FormCase):
    def test_nothing_to_remember(self):
        for step in (("rename_column", "person", "n", "new"), ("reorder", "coded", ("code", "a")),
                     ("rename_table", "person", "folk")):
            self.fits(step, {})

    def test_add_column(self):
        for column, goods in ((("new", "int", False), (0, 5)), (("new", "int", True), (None, -1)),
                              (("new", "text", False), ("", "~")), (("new", "text", True), (None, "a"))):
            for table, kind in (("person", "int"), ("coded", "text")):
                step = ("add_column", table) + column + (goods[0],)
                self.entry(step, "values", kind, goods, bad_for(column))

    def test_drop_column(self):
        goods = {"n": (None, 3), "t": (None, ""), "m": (0, 3), "u": ("", "z")}
        for column in COLUMNS[1:]:
            step = ("drop_column", "person", column[0], goods[column[0]][0])
            self.entry(step, "values", "int", goods[column[0]], bad_for(column))
        self.entry(("drop_column", "coded", "a", 0), "values", "text", (0, 1), bad_for(("a", "int", False)))

    def test_convert(self):
        """The left value fits the old column, the right one the new column."""
        step = ("convert", "person", "n", "text", False)
        bads = [(value, "") for value in bad_for(("n", "int", True))]
        bads += [(None, value) for value in bad_for(("n", "text", False))]
        bads += [("", None), ("", 1), (1,), (1, "", ""), [1, ""], None, 1, "ab", (), ((1, ""),)]
        self.entry(step, "pairs", "int", [(1, "1"), (None, ""), (7, "x")], bads)
        step = ("convert", "person", "u", "int", True)
        self.entry(step, "pairs", "int", [("1", 1), ("", None), ("7", 0)], [(None, 1), (1, 1), ("1", "1"), ("1", True)])
        step = ("convert", "coded", "a", "text", True)
        self.entry(step, "pairs", "text", [(1, "1"), (1, None)], [(None, "1"), ("1", 1)])

    def test_split_column(self):
        step = ("split_column", "person", "t", "first", "second", " ")
        goods = [("a b", ("a", "b")), (None, (None, None)), (None, ("x", None)), ("q", (None, "r"))]
        text = ("t", "text", True)
        bads = [(value, ("", "")) for value in bad_for(text)] + [("", (value, "")) for value in bad_for(text)]
        bads += [("", ("", value)) for value in bad_for(text)]
        bads += [("", None), ("", ()), ("", ("",)), ("", ("", "", "")), ("", ["", ""]), ("", "ab"), ("",), (), None,
                 ("", "", ""), ("", ("", ""), ""), ["", ("", "")], "ab", (("", ""), "")]
        self.entry(step, "pairs", "int", goods, bads)
        step = ("split_column", "person", "u", "first", "second", " ")
        bads = [(None, ("", "")), ("", (None, "")), ("", ("", None)), ("", (1, ""))]
        self.entry(step, "pairs", "int", goods[:1], bads)

    def test_merge_columns(self):
        """The single column is on the right; it is nullable only if both are."""
        step = ("merge_columns", "person", "t", "u", "new", " ")
        goods = [("a b", ("a", "b")), ("", (None, ""))]
        bads = [(None, ("", "")), ("", ("", None)), (1, ("", "")), ("", (1, "")), ("", ("", 1)), ("", ("", "", "")),
                ("", ["", ""]), ("", ""), ("",), None, (True, ("", "")), ("", (True, "")), ("", None), ["", ("", "")]]
        self.entry(step, "pairs", "int", goods, bads)
        step = ("merge_columns", "person", "u", "t", "t", " ")
        self.entry(step, "pairs", "int", [("a b", ("a", None))], [("", (None, "")), (None, ("", ""))])
        self.schema = {"coded": described([WORD, ("a", "text", True), ("b", "text", True)])}
        step = ("merge_columns", "coded", "a", "b", "c", " ")
        self.entry(step, "pairs", "text", [(None, (None, None)), ("", (None, ""))], [("", None), (None, 1)])


class TableFormsTest(FormCase):
    def test_create_table(self):
        step = ("create_table", "new", tuple(COLUMNS))
        self.entry(step, "rows", "int", [REST, REST_TOO], BAD_RESTS)
        self.entry(("create_table", "new", (WORD,)), "rows", "text", [()], [None, (1,), ("",), [], 1, "", (None,)])

    def test_drop_table(self):
        self.entry(("drop_table", "person"), "rows", "int", [REST, REST_TOO], BAD_RESTS)
        self.entry(("drop_table", "coded"), "rows", "text", [(0,), (7,)], [(None,), ("",), (), (0, 0), None, [0]])

    def test_decompose(self):
        step = ("decompose", "person", "other", ("n", "u"))
        bads = [None, (), (1,), (1, None), ("", 1), (1, "", ""), [1, ""], ("1", ""), (1, 1), (True, ""), (1, False)]
        for name in ("missing", "extra"):
            self.entry(step, name, "int", [(1, ""), (None, "x")], bads)
            # The order is that of the table, not that of the step.
            self.entry(("decompose", "person", "other", ("u", "n")), name, "int", [(1, ""), (None, "x")], bads)
            self.entry(("decompose", "coded", "other", ("a",)), name, "text", [(1,)], [(None,), (), 1, ("a",)])

    def test_recompose(self):
        self.schema = {"person": described([KEY, ("x", "text", False)]),
                       "other": described([("nr", "int", False), ("a", "int", True), ("b", "text", False)])}
        bads = [None, (), (1,), (1, None), ("", 1), (1, "", ""), [1, ""], ("x",), (True, "")]
        for name in ("missing", "extra"):
            self.entry(("recompose", "person", "other"), name, "int", [(1, ""), (None, "x")], bads)

    def test_sides(self):
        goods = [(REST, True), (REST_TOO, False)]
        bads = [(rest, True) for rest in BAD_RESTS]
        bads += [(REST, 1), (REST, 0), (REST, None), (REST, "True"), (REST, ()), (REST,), (REST, True, True)]
        bads += [None, (), True, [REST, True], REST, (True,), (True, REST)]
        self.entry(("partition", "person", "other", CONDITION), "sides", "int", goods, bads)
        self.schema = {"person": PERSON, "other": PERSON}
        self.entry(("union", "person", "other", CONDITION), "sides", "int", goods, bads)
        self.entry(("move", "person", "other", CONDITION), "marks", "int", goods, bads)

    def test_flags_of_tables_with_texts_as_keys(self):
        self.schema = {"person": CODED, "other": CODED}
        goods, bads = [((0,), True)], [((None,), True), ((0, 0), True), (0, True), ((True,), True), ((0,), 1)]
        condition = only("a", ">", 0)
        self.entry(("union", "person", "other", condition), "sides", "text", goods, bads)
        self.entry(("move", "person", "other", condition), "marks", "text", goods, bads)


class GroupFormsTest(FormCase):
    def test_extract(self):
        step = ("extract", "person", "t", ("m", "n"), "other")
        parts, bad_parts = [(1, 0), (None, 5)], [(0, None), (1,), (1, 2, 3), [1, 0], None, (), ("1", 0), (1, True), 1]
        # The keys of "known" are those of the other table, texts here and never null.
        self.entry(step, "known", "text", parts, bad_parts)
        goods = [("a", (1, 0)), (None, (None, 5)), ("", (1, 0))]
        bads = [("a", part) for part in bad_parts] + [(value, (1, 0)) for value in bad_for(("t", "text", True))]
        bads += [("a",), ("a", (1, 0), 1), ["a", (1, 0)], None, (), ((1, 0), "a"), (1, 0), "ab"]
        self.entry(step, "apart", "int", goods, bads)

    def test_extract_by_a_column_that_is_not_nullable(self):
        step = ("extract", "person", "m", ("u",), "other")
        self.entry(step, "known", "int", [("",)], [(None,), (1,), "", None, ("", "")])
        bads = [(None, ("",)), ("0", ("",)), (0, ""), (0, (None,)), (True, ("",))]
        self.entry(step, "apart", "int", [(0, ("",))], bads)

    def test_inline(self):
        self.schema = {"person": described([WORD, ("n", "int", True), ("m", "int", False)]),
                       "other": described([("nr", "int", False), ("a", "int", True), ("b", "text", False)])}
        parts, bad_parts = [(1, ""), (None, "x")], [(1, None), (1,), ("", 1), [1, ""], None, (1, "", ""), (True, "")]
        step = ("inline", "person", "n", "other")
        self.entry(step, "known", "int", parts, bad_parts)
        bads = [(1, part) for part in bad_parts] + [("1", (1, "")), (True, (1, "")), (1,), None, (1, (1, ""), 1)]
        self.entry(step, "apart", "text", [(1, (1, "")), (None, (None, "x"))], bads)
        step = ("inline", "person", "m", "other")
        self.entry(step, "apart", "text", [(1, (1, ""))], bads + [(None, (1, ""))])


class LimitFormsTest(FormCase):
    def test_adding(self):
        schema = {"person": PERSON, "other": described([("nr", "int", False)])}
        self.schema = schema
        self.entry(("add_check", "person", CONDITION), "hidden", "int", [REST, REST_TOO], BAD_RESTS)
        self.entry(("add_unique", "person", "n"), "hidden", "int", [REST, REST_TOO], BAD_RESTS)
        self.entry(("add_unique", "person", "n"), "shown", "int", [REST, REST_TOO], BAD_RESTS)
        self.entry(("add_reference", "person", "n", "other"), "hidden", "int", [REST, REST_TOO], BAD_RESTS)

    def test_dropping(self):
        person = described(COLUMNS, [CONDITION], ["n"], [("n", "other")])
        self.schema = {"person": person, "other": described([("nr", "int", False)])}
        self.entry(("drop_check", "person", CONDITION), "hidden", "int", [REST, REST_TOO], BAD_RESTS)
        self.entry(("drop_unique", "person", "n"), "hidden", "int", [REST, REST_TOO], BAD_RESTS)
        self.entry(("drop_unique", "person", "n"), "shown", "int", [REST, REST_TOO], BAD_RESTS)
        self.entry(("drop_reference", "person", "n", "other"), "hidden", "int", [REST, REST_TOO], BAD_RESTS)

    def test_keys_that_are_texts(self):
        self.entry(("add_unique", "coded", "a"), "shown", "text", [(0,)], [(None,), (), ("",), 0, [0], (0, 0)])


class AllKindsTest(FormCase):
    def test_complements_that_lenses_gave(self):
        for schema, step, left, right, complement in CASES:
            with self.subTest(step=step):
                self.schema = schema
                self.fits(step, empty_complement(step))
                self.fits(step, complement)
                self.fits(step, put_right(schema, step, left, empty_complement(step))[1])
                self.fits(step, put_left(schema, step, right, empty_complement(step))[1])

    def test_keys_of_complements_that_lenses_gave_spoilt(self):
        """Each key of a complement counts, in each entry and of each kind of steps."""
        for schema, step, _, _, complement in CASES:
            self.schema = schema
            for name, entry in complement.items():
                for key in (None, True, False, (), 1000000000, "x" * 31):
                    with self.subTest(step=step, name=name, key=key):
                        items = {other: item for other, item in entry.items() if other != key}
                        items[key] = list(entry.values())[0] if entry else 1
                        self.fails(step, {**copy.deepcopy(complement), name: items})


if __name__ == "__main__":
    unittest.main()
