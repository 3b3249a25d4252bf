"""Point 19: both rules for each kind of lens, for many states and complements, also such as no run would make.

The states and complements come from a generator with fixed seeds, so that each run is the same. Keys and values are
drawn from few, so that complements often agree with rows, and often do not.
"""

import copy
import random
import unittest

from lenstree.columns import column_left, column_right
from lenstree.conditions import holds
from lenstree.errors import LensError
from lenstree.forms import fits_step
from lenstree.groups import group_left, group_right
from lenstree.lens import empty_complement, put_left, put_right
from lenstree.limits import limit_left, limit_right
from lenstree.states import fits_schema
from lenstree.steps import target_schema
from lenstree.tables import table_left, table_right
from tests.support import described, only

ROUNDS = 150
INTEGERS = (0, 1, 7, -7)
TEXTS = ("", "a", "b", "a b", "7", "07", " ", "a b ", "x" * 30)
KEYS = {"int": (1, 2, 3, 4), "text": ("", "a", "b", "7")}
KEY = ("id", "int", False)
COLUMNS = [KEY, ("n", "int", True), ("t", "text", True), ("m", "int", False), ("u", "text", False)]
PERSON = described(COLUMNS, [only("n", ">", 100)], ["n"])
OTHER = described([("nr", "int", False), ("a", "int", True), ("b", "text", False)])
WORD = described([("w", "text", False), ("a", "int", True)])
SCHEMA = {"person": PERSON, "word": WORD}
FREE = {"person": described(COLUMNS), "word": WORD}
RIGHTS = (column_right, table_right, group_right, limit_right)
CONDITION = ((("n", ">", 0), ("t", "given", None)), (("u", "=", "a"),))


def any_value(source, column):
    """Return any value that fits the column."""
    values = INTEGERS if column[1] == "int" else TEXTS
    return source.choice(values + (None,) if column[2] else values)


def any_rest(source, columns):
    """Return any values that fit the columns, as a tuple."""
    return tuple([any_value(source, column) for column in columns])


def any_keys(source, description):
    """Return some keys of the table in any order."""
    keys = KEYS[description["columns"][0][1]]
    return source.sample(keys, source.randrange(len(keys) + 1))


def any_state(source, schema):
    """Return any state of the schema."""
    return {
        table: {key: any_rest(source, schema[table]["columns"][1:]) for key in any_keys(source, schema[table])}
        for table in schema
    }


def any_flag(source):
    return source.choice((True, False))


def any_entry(source, step, name, left, right):
    """Return a function that gives any item of the entry of the complement, as points 21 to 31 tell its form."""
    kind, table = step[0], step[1]
    if name == "values":
        wide = right if kind == "add_column" else left
        column = [item for item in wide[table]["columns"] if item[0] == step[2]][0]
        return lambda: any_value(source, column)
    if name == "pairs" and kind == "convert":
        old, new = [[item for item in side[table]["columns"] if item[0] == step[2]][0] for side in (left, right)]
        return lambda: (any_value(source, old), any_value(source, new))
    if name == "pairs":
        one, two = (left, right) if kind == "split_column" else (right, left)
        single, names = (step[2], step[3:5]) if kind == "split_column" else (step[4], step[2:4])
        column = [item for item in one[table]["columns"] if item[0] == single][0]
        both = [[item for item in two[table]["columns"] if item[0] == word][0] for word in names]
        return lambda: (any_value(source, column), any_rest(source, both))
    if name == "rows":
        columns = (right if kind == "create_table" else left)[table]["columns"][1:]
        return lambda: any_rest(source, columns)
    if name in ("missing", "extra"):
        columns = (right if kind == "decompose" else left)[step[2]]["columns"][1:]
        return lambda: any_rest(source, columns)
    if name in ("known", "apart"):
        part = (right if kind == "extract" else left)[step[-1]]["columns"][1:]
        if name == "known":
            return lambda: any_rest(source, part)
        group = [item for item in left[table]["columns"] if item[0] == step[2]]
        return lambda: any_rest(source, group) + (any_rest(source, part),)
    if name in ("hidden", "shown"):
        return lambda: any_rest(source, left[table]["columns"][1:])
    return lambda: (any_rest(source, left[table]["columns"][1:]), any_flag(source))


def any_complement(source, step, names, left, right):
    """Return any complement with these entries."""
    result = {}
    for name in names:
        entry = any_entry(source, step, name, left, right)
        table = step[-1] if name == "known" else step[1]
        description = (right if table in right else left)[table]
        result[name] = {key: entry() for key in any_keys(source, description)}
    return result


def satisfies(schema, step, state):
    """Tell whether the rows keep the constraint that the step adds or drops."""
    kind, table, what = step[:3]
    names = [column[0] for column in schema[table]["columns"]]
    listed = [(key,) + rest for key, rest in state[table].items()]
    if kind in ("add_check", "drop_check"):
        return all([holds(what, names, row) for row in listed])
    given = [row[names.index(what)] for row in listed if row[names.index(what)] is not None]
    if kind in ("add_unique", "drop_unique"):
        return len(set(given)) == len(given)
    return all([value in state[step[3]] for value in given])


class LawsTest(unittest.TestCase):
    def there_and_back(self, schema, step, there, back, schemas, state, complement):
        """See that a put and the put back give the state again, and leave the complement that the first one made."""
        before = copy.deepcopy((schema, state, complement))
        self.assertTrue(fits_step(schema, step, complement))
        try:
            other, new = there(schema, step, state, complement)
        except LensError:
            self.assertEqual((schema, state, complement), before)
            return False
        self.assertTrue(fits_schema(schemas[1], other))
        self.assertEqual(sorted(new), sorted(complement))
        self.assertTrue(fits_step(schema, step, new))
        self.assertEqual((schema, state, complement), before)
        bound = there is limit_left if step[0].startswith("add_") else there is limit_right
        if bound and not satisfies(schema, step, state):
            return False
        self.assertEqual(back(schema, step, other, new), (state, new))
        self.assertEqual(there(schema, step, state, new), (other, new))
        self.assertEqual((put_right if there in RIGHTS else put_left)(schema, step, state, new), (other, new))
        return True

    def keeps_the_rules(self, schema, step, names, puts):
        """See that the lens of the step keeps both rules."""
        right_schema = target_schema(schema, step)
        source = random.Random(repr(step))
        go_right, go_left = puts
        self.assertEqual(sorted(empty_complement(step)), sorted(names))
        count = 0
        for _ in range(ROUNDS):
            complement = any_complement(source, step, names, schema, right_schema)
            state = any_state(source, schema)
            schemas = (schema, right_schema)
            count += self.there_and_back(schema, step, go_right, go_left, schemas, state, complement)
            complement = any_complement(source, step, names, schema, right_schema)
            state = any_state(source, right_schema)
            schemas = (right_schema, schema)
            count += self.there_and_back(schema, step, go_left, go_right, schemas, state, complement)
        self.assertGreater(count, ROUNDS // 2)

    def column_step(self, step, names, schema=FREE):
        with self.subTest(step=step):
            self.keeps_the_rules(schema, step, names, (column_right, column_left))

    def table_step(self, step, names, schema=FREE):
        with self.subTest(step=step):
            self.keeps_the_rules(schema, step, names, (table_right, table_left))

    def group_step(self, step, schema):
        with self.subTest(step=step):
            self.keeps_the_rules(schema, step, ["known", "apart"], (group_right, group_left))

    def limit_step(self, step, names, schema):
        with self.subTest(step=step):
            self.keeps_the_rules(schema, step, names, (limit_right, limit_left))

    def test_rename_column(self):
        self.column_step(("rename_column", "person", "n", "new"), [], SCHEMA)
        self.column_step(("rename_column", "person", "id", "new"), [], SCHEMA)

    def test_reorder(self):
        self.column_step(("reorder", "person", ("id", "u", "n", "m", "t")), [], SCHEMA)

    def test_add_column(self):
        for end in (("int", False, 7), ("int", True, None), ("text", False, ""), ("text", True, "a")):
            self.column_step(("add_column", "person", "new") + end, ["values"], SCHEMA)
        self.column_step(("add_column", "word", "new", "text", True, "a"), ["values"], SCHEMA)

    def test_drop_column(self):
        for column, default in (("n", None), ("n", 7), ("t", "a"), ("m", 0), ("u", "")):
            self.column_step(("drop_column", "person", column, default), ["values"])
        self.column_step(("drop_column", "word", "a", 1), ["values"])

    def test_convert(self):
        for column in ("n", "t", "m", "u"):
            for kind in ("int", "text"):
                for nullable in (True, False):
                    self.column_step(("convert", "person", column, kind, nullable), ["pairs"])

    def test_split_column(self):
        for column in ("t", "u"):
            for separator in (" ", "a"):
                self.column_step(("split_column", "person", column, "first", "second", separator), ["pairs"])
        self.column_step(("split_column", "person", "t", "t", "second", " "), ["pairs"])
        self.column_step(("split_column", "person", "t", "first", "t", " "), ["pairs"])

    def test_merge_columns(self):
        for first, second in (("t", "u"), ("u", "t")):
            for name in ("new", "t", "u"):
                self.column_step(("merge_columns", "person", first, second, name, " "), ["pairs"])
        for nullable in (True, False):
            schema = {"person": described([KEY, ("t", "text", nullable), ("u", "text", nullable)]), "word": WORD}
            self.column_step(("merge_columns", "person", "t", "u", "new", "b"), ["pairs"], schema)

    def test_rename_table(self):
        self.table_step(("rename_table", "person", "folk"), [], SCHEMA)

    def test_create_table(self):
        self.table_step(("create_table", "new", tuple(COLUMNS)), ["rows"], SCHEMA)
        self.table_step(("create_table", "new", (KEY,)), ["rows"], SCHEMA)

    def test_drop_table(self):
        self.table_step(("drop_table", "person"), ["rows"], SCHEMA)
        self.table_step(("drop_table", "word"), ["rows"], SCHEMA)

    def test_decompose(self):
        for columns in (("n",), ("t", "m"), ("u", "n"), ("u", "m", "t", "n")):
            self.table_step(("decompose", "person", "other", columns), ["missing", "extra"])
        self.table_step(("decompose", "word", "other", ("a",)), ["missing", "extra"])

    def test_recompose(self):
        for other in (OTHER, described([KEY]), described([KEY, ("a", "int", False)])):
            self.table_step(("recompose", "person", "other"), ["missing", "extra"], {**SCHEMA, "other": other})

    def test_partition(self):
        for condition in (CONDITION, (), ((),)):
            self.table_step(("partition", "person", "other", condition), ["sides"], SCHEMA)

    def test_union(self):
        small = described([KEY, ("a", "int", True)])
        for condition in (CONDITION, (), ((),)):
            self.table_step(("union", "person", "other", condition), ["sides"], {**SCHEMA, "other": PERSON})
        schema = {"person": small, "other": small}
        self.table_step(("union", "person", "other", only("a", "=", 1)), ["sides"], schema)

    def test_move(self):
        for condition in (CONDITION, (), ((),)):
            self.table_step(("move", "person", "other", condition), ["marks"], {**SCHEMA, "other": described(COLUMNS)})
        small = described([KEY, ("a", "int", True)])
        self.table_step(("move", "person", "other", only("a", "=", 1)), ["marks"], {"person": small, "other": small})

    def test_extract(self):
        """The groups are few, so that rows share them; the values of the parts are few in the second schema."""
        for column, columns in (("n", ("t",)), ("t", ("n", "u")), ("u", ("m", "n", "t")), ("m", ("u", "n"))):
            self.group_step(("extract", "person", column, columns, "other"), FREE)
        small = {"person": described([KEY, ("g", "int", True), ("f", "text", False)])}
        self.group_step(("extract", "person", "g", ("f",), "other"), small)
        self.group_step(("extract", "person", "f", ("g",), "other"), small)

    def test_inline(self):
        for column in ("n", "m"):
            for other in (OTHER, described([("nr", "int", False)]), described([KEY, ("a", "int", False)])):
                self.group_step(("inline", "person", column, "other"), {**SCHEMA, "other": other})
        for column in ("t", "u"):
            self.group_step(("inline", "person", column, "word"), SCHEMA)

    def test_checks(self):
        for condition in (CONDITION, (), ((),), only("n", "null", None), only("id", "<=", 2)):
            self.limit_step(("add_check", "person", condition), ["hidden"], SCHEMA)
            schema = {"person": described(COLUMNS, [only("id", ">", 1), condition]), "word": WORD}
            self.limit_step(("drop_check", "person", condition), ["hidden"], schema)

    def test_uniques(self):
        for column in ("n", "t", "m", "u"):
            self.limit_step(("add_unique", "person", column), ["hidden", "shown"], FREE)
            schema = {"person": described(COLUMNS, [], [column]), "word": WORD}
            self.limit_step(("drop_unique", "person", column), ["hidden", "shown"], schema)

    def test_references(self):
        for column, other in (("n", "other"), ("m", "other"), ("t", "word"), ("u", "word")):
            self.limit_step(("add_reference", "person", column, other), ["hidden"], {**FREE, "other": OTHER})
            person = described(COLUMNS, [], [], [(column, other)])
            schema = {"person": person, "word": WORD, "other": OTHER}
            self.limit_step(("drop_reference", "person", column, other), ["hidden"], schema)


if __name__ == "__main__":
    unittest.main()
