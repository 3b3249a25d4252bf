"""Random stores: calls of a store from a generator with a fixed seed, for tests of what holds after each call."""

from lenstree.errors import StepError
from lenstree.steps import script_schema, target_schema
from tests.support import described

KINDS = (
    "rename_column", "reorder", "add_column", "drop_column", "convert", "split_column", "merge_columns",
    "rename_table", "create_table", "drop_table", "decompose", "recompose", "partition", "union", "move",
    "extract", "inline", "add_check", "drop_check", "add_unique", "drop_unique", "add_reference", "drop_reference",
)
TABLES = ("a", "b", "c", "d")
NAMES = ("n", "t", "u", "v", "w")
VALUES = {"int": (1, 2, 3, 7, -1), "text": ("", "a", "b", "a b", "1", "7")}
KEYS = {"int": (1, 2, 3, 4), "text": ("", "a", "b", "1")}
COLUMNS = [("id", "int", False), ("n", "int", True), ("t", "text", True), ("m", "int", False)]
START = {
    "a": described(COLUMNS),
    "b": described([("id", "int", False), ("u", "text", False), ("v", "int", True)]),
    "c": described([("w", "text", False), ("v", "int", True)]),
}


def any_value(source, column):
    """Return any of few values that fit the column."""
    _, kind, nullable = column
    return source.choice(VALUES[kind] + (None,) if nullable else VALUES[kind])


def any_condition(source, columns):
    """Return any condition of one or two clauses that fits the columns."""
    clauses = []
    for _ in range(source.choice((1, 1, 2))):
        name, kind, _ = source.choice(columns)
        operator = source.choice(("=", "!=", "<", "<=", ">", ">=", "null", "given"))
        operand = None if operator in ("null", "given") else source.choice(VALUES[kind])
        clauses.append((name, operator, operand))
    return tuple([(clause,) for clause in clauses]) if source.randrange(2) else (tuple(clauses),)


def any_arguments(source, kind, schema, table, columns):
    """Return any arguments of a step of this kind behind the table; they need not be allowed."""
    names = [column[0] for column in columns]
    column, second = source.choice(names), source.choice(names)
    name, other = source.choice(NAMES), source.choice(TABLES)
    some = tuple(source.sample(names, source.randrange(1, 3))) if len(names) > 2 else (column,)
    text_kind, nullable = source.choice(("int", "text")), source.choice((True, False))
    checks, uniques, references = [schema[table][part] for part in ("checks", "uniques", "references")]
    return {
        "rename_column": lambda: (column, name),
        "reorder": lambda: (tuple(names[:1] + source.sample(names[1:], len(names) - 1)),),
        "add_column": lambda: (name, text_kind, nullable, any_value(source, (name, text_kind, nullable))),
        "drop_column": lambda: (column, any_value(source, columns[names.index(column)])),
        "convert": lambda: (column, text_kind, nullable),
        "split_column": lambda: (column, name, source.choice(NAMES), source.choice((" ", "a"))),
        "merge_columns": lambda: (column, second, name, source.choice((" ", "a"))),
        "rename_table": lambda: (other,),
        "create_table": lambda: (tuple(COLUMNS),),
        "drop_table": lambda: (),
        "decompose": lambda: (other, some),
        "recompose": lambda: (other,),
        "partition": lambda: (other, any_condition(source, columns)),
        "union": lambda: (other, any_condition(source, columns)),
        "move": lambda: (other, any_condition(source, columns)),
        "extract": lambda: (column, some, other),
        "inline": lambda: (column, other),
        "add_check": lambda: (any_condition(source, columns),),
        "drop_check": lambda: (source.choice(checks + [()]),),
        "add_unique": lambda: (column,),
        "drop_unique": lambda: (source.choice(uniques + [column]),),
        "add_reference": lambda: (column, other),
        "drop_reference": lambda: source.choice(references + [(column, other)]),
    }[kind]()


def any_step(source, schema, kinds=KINDS):
    """Return any step that can be applied to the schema, of one of the kinds, or None if none was found."""
    for _ in range(60):
        kind = source.choice(kinds)
        table = source.choice(sorted(schema)) if schema else "a"
        if kind == "create_table":
            table = source.choice(TABLES)
        columns = schema[table]["columns"] if table in schema else COLUMNS
        shown = schema if table in schema else START
        step = (kind, table) + any_arguments(source, kind, shown, table if table in shown else "a", columns)
        try:
            target_schema(schema, step)
        except StepError:
            continue
        return step
    return None


def any_script(source, schema, kinds=KINDS, most=3):
    """Return any script that can be applied to the schema."""
    script = []
    for _ in range(source.randrange(most + 1)):
        step = any_step(source, script_schema(schema, script), kinds)
        if step is not None:
            script.append(step)
    return script


def any_row(source, columns, key):
    """Return any row of the table with this key."""
    return (key,) + tuple([any_value(source, column) for column in columns[1:]])


def any_edit(source, schema, state, kinds):
    """Return any edit of the state, which mostly can be applied."""
    table = source.choice(sorted(schema))
    columns = schema[table]["columns"]
    keys = KEYS[columns[0][1]]
    there = [key for key in keys if key in state[table]]
    free = [key for key in keys if key not in state[table]]
    kind = source.choice([kind for kind in kinds if (free if kind == "insert" else there)] or ["delete"])
    key = source.choice((free if kind == "insert" else there) or list(keys))
    if source.randrange(20) == 0:
        key = source.choice(keys)
    if kind == "delete":
        return ("delete", table, key)
    if kind == "set":
        column = source.choice(columns[1:] or columns)
        return ("set", table, key, column[0], any_value(source, column))
    return (kind, table, any_row(source, columns, key))


def any_edits(source, schema, state, kinds=("insert", "insert", "replace", "set", "delete")):
    """Return any list of few edits of the state."""
    if not schema:
        return []
    return [any_edit(source, schema, state, kinds) for _ in range(source.choice((1, 1, 2, 3)))]


def any_move(source, tree):
    """Return any live version and a new parent for it, which mostly may be one."""
    numbers = tree.numbers()
    pairs = [(number, parent) for number in numbers for parent in numbers if number not in tree.path(0, parent)
             and tree.parent(number) not in (-1, parent)] if tree.is_live(0) else []
    if pairs and source.randrange(5):
        return source.choice(pairs)
    return source.choice(numbers), source.choice(numbers)


def any_call(source, store):
    """Return any call of the store, as a tuple of the name of the method and the arguments."""
    tree = store.tree
    version = source.choice(tree.numbers())
    draw = source.randrange(20)
    if draw < 4:
        return ("evolve", version, any_script(source, tree.schema(version)))
    if draw < 16:
        return ("write", version, any_edits(source, tree.schema(version), store.show(version)))
    if draw < 18:
        version, parent = any_move(source, tree)
        return ("rebase", version, parent)
    return ("prune", version)


def filled(source, store):
    """Write some rows through the root of the store, which has the schema START."""
    for table in sorted(START):
        columns = START[table]["columns"]
        keys = source.sample(KEYS[columns[0][1]], 3)
        store.write(0, [("insert", table, any_row(source, columns, key)) for key in keys])
