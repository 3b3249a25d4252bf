"""Edits: applying a write to a state, and the edits that lead from one state to another one."""

from lenstree.errors import EditError
from lenstree.schema import column_called, column_names, is_other_column
from lenstree.states import copy_state, fits_columns
from lenstree.values import fits_kind

MOST_EDITS = 24


def fits_key(description, key):
    """Tell whether anything is a key that fits the key column of the table."""
    return fits_columns((key,), description["columns"][:1])


def key_of(edit):
    """Return the key of the row that an edit names."""
    if edit[0] in ("insert", "replace"):
        return edit[2][0]
    return edit[2]


def fits_set(description, column, value):
    """Tell whether the table has this column besides its key column, and the value fits it."""
    if not is_other_column(description, column):
        return False
    _, kind, nullable = column_called(description, column)
    return fits_kind(value, kind, nullable)


def edit_code(schema, state, edit):
    """Return the first code that applies to the edit, or "" if it can be applied to the state."""
    act, table = edit[:2]
    if table not in schema:
        return "table"
    description = schema[table]
    if act in ("insert", "replace") and not fits_columns(edit[2], description["columns"]):
        return "row"
    if act == "set" and not fits_set(description, edit[3], edit[4]):
        return "row"
    key = key_of(edit)
    # A row that fits has a key that fits, so this concerns set and delete only.
    if not fits_key(description, key):
        return "key"
    if (key in state[table]) == (act == "insert"):
        return "key"
    return ""


def with_value(description, rest, column, value):
    """Return the rest with another value in the column."""
    place = column_names(description).index(column) - 1
    return rest[:place] + (value,) + rest[place + 1:]


def table_after(description, table_rows, edit):
    """Return the rows of the table after an edit of it that can be applied."""
    act = edit[0]
    key = key_of(edit)
    result = dict(table_rows)
    if act == "delete":
        del result[key]
    elif act == "set":
        result[key] = with_value(description, result[key], edit[3], edit[4])
    else:
        result[key] = edit[2][1:]
    return result


def apply_write(schema, state, edits):
    """Return the state after the edits, or raise EditError."""
    if len(edits) > MOST_EDITS:
        raise EditError("long", MOST_EDITS)
    result = copy_state(state)
    for index, edit in enumerate(edits):
        code = edit_code(schema, result, edit)
        if code != "":
            raise EditError(code, index)
        table = edit[1]
        result[table] = table_after(schema[table], result[table], edit)
    return result


def row_difference(table, key, old, new):
    """Return the list of the edits, at most one, that turn the rest `old` into `new`. None stands for no row."""
    if old == new:
        return []
    if new is None:
        return [("delete", table, key)]
    if old is None:
        return [("insert", table, (key,) + new)]
    return [("replace", table, (key,) + new)]


def difference(schema, before, after):
    """Return the list of the edits that turn one state of the schema into another one."""
    edits = []
    for table in sorted(schema):
        old_rows = before[table]
        new_rows = after[table]
        for key in sorted(set(list(old_rows) + list(new_rows))):
            edits.extend(row_difference(table, key, old_rows.get(key), new_rows.get(key)))
    return edits


def touched(edits):
    """Return the list of the pairs (table, key) that the edits name, ascending and without duplicates."""
    return sorted(set([(edit[1], key_of(edit)) for edit in edits]))
