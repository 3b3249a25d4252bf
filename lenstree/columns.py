"""The lenses of steps on columns.

The put functions of one kind take the description of the table on the side that is put and the one on the other side,
the step, the rows of the table and the complement. They return the rows of the other side and the new complement.
"""

from lenstree.rests import moved_rest, value_at, values_at
from lenstree.schema import column_called
from lenstree.states import copy_state
from lenstree.steps import target_schema
from lenstree.values import convert, cut, glue, plain_value


def put_same(here, there, step, rows, complement):
    """Put the rows of a table in which a column is renamed, in either direction."""
    return dict(rows), {}


def put_ordered(here, there, step, rows, complement):
    """Put the rows of a table that is reordered, in either direction."""
    return {key: moved_rest(here, there, rest, {}) for key, rest in rows.items()}, {}


def put_wide(here, there, step, rows, complement):
    """Put rows without the column of add_column or drop_column to the side that has it."""
    column = step[2]
    # Both kinds of steps end with the default.
    default = step[-1]
    values = {key: complement["values"].get(key, default) for key in rows}
    return {key: moved_rest(here, there, rest, {column: values[key]}) for key, rest in rows.items()}, {"values": values}


def put_narrow(here, there, step, rows, complement):
    """Put rows with the column of add_column or drop_column to the side that does not have it."""
    values = {key: value_at(here, step[2], rest) for key, rest in rows.items()}
    return {key: moved_rest(here, there, rest, {}) for key, rest in rows.items()}, {"values": values}


def remembered(pairs, key, side, value, otherwise):
    """Return what the pair of the key has for the other side, if it has the value on this side, else `otherwise`."""
    if key in pairs and pairs[key][side] == value:
        return pairs[key][1 - side]
    return otherwise


def forced(value, column):
    """Return the value converted so that it fits the column."""
    _, kind, nullable = column
    result = convert(value, kind)
    if result is None and not nullable:
        return plain_value(kind, nullable)
    return result


def put_converted(here, there, column, rows, old_pairs, side):
    """Put the rows of a table in which the column is converted from the side 0 (left) or 1 (right) to the other one."""
    goal = column_called(there, column)
    new_rows = {}
    pairs = {}
    for key, rest in rows.items():
        old = value_at(here, column, rest)
        new = remembered(old_pairs, key, side, old, forced(old, goal))
        new_rows[key] = moved_rest(here, there, rest, {column: new})
        pairs[key] = (old, new) if side == 0 else (new, old)
    return new_rows, {"pairs": pairs}


def put_convert_right(here, there, step, rows, complement):
    """Put the rows of a table in which a column is converted to the right."""
    return put_converted(here, there, step[2], rows, complement["pairs"], 0)


def put_convert_left(here, there, step, rows, complement):
    """Put the rows of a table in which a column is converted to the left."""
    return put_converted(here, there, step[2], rows, complement["pairs"], 1)


def single_and_both(step):
    """Return the names of the single column, the first and the second one, and the separator."""
    if step[0] == "split_column":
        return step[2:]
    _, _, first, second, name, separator = step
    return (name, first, second, separator)


def plain_of(column):
    """Return the plain value of the column."""
    _, kind, nullable = column
    return plain_value(kind, nullable)


def both_of(single, first, second, separator):
    """Return the pair of values that the columns `first` and `second` get from a value of the single column."""
    if single is None:
        return (plain_of(first), plain_of(second))
    return cut(single, separator)


def text_of(value):
    """Return the text as which a value of a text column is glued."""
    if value is None:
        return ""
    return value


def single_of(both, column, separator):
    """Return the value that the single column gets from a pair of values."""
    first, second = both
    if first is None and second is None and column[2]:
        return None
    return glue(text_of(first), text_of(second), separator)


def put_apart(here, there, step, rows, complement):
    """Put rows with the single column to the side that has both columns."""
    column, first, second, separator = single_and_both(step)
    first_column = column_called(there, first)
    second_column = column_called(there, second)
    new_rows = {}
    pairs = {}
    for key, rest in rows.items():
        single = value_at(here, column, rest)
        cut_now = both_of(single, first_column, second_column, separator)
        both = remembered(complement["pairs"], key, 0, single, cut_now)
        new_rows[key] = moved_rest(here, there, rest, {first: both[0], second: both[1]})
        pairs[key] = (single, both)
    return new_rows, {"pairs": pairs}


def put_together(here, there, step, rows, complement):
    """Put rows with both columns to the side that has the single column."""
    column, first, second, separator = single_and_both(step)
    goal = column_called(there, column)
    new_rows = {}
    pairs = {}
    for key, rest in rows.items():
        both = values_at(here, [first, second], rest)
        single = remembered(complement["pairs"], key, 1, both, single_of(both, goal, separator))
        new_rows[key] = moved_rest(here, there, rest, {column: single})
        pairs[key] = (single, both)
    return new_rows, {"pairs": pairs}


RIGHTS = {
    "rename_column": put_same,
    "reorder": put_ordered,
    "add_column": put_wide,
    "drop_column": put_narrow,
    "convert": put_convert_right,
    "split_column": put_apart,
    "merge_columns": put_together,
}
LEFTS = {
    "rename_column": put_same,
    "reorder": put_ordered,
    "add_column": put_narrow,
    "drop_column": put_wide,
    "convert": put_convert_left,
    "split_column": put_together,
    "merge_columns": put_apart,
}


def column_right(schema, step, left, complement):
    """Put right of a step on columns: return the right state and the new complement."""
    table = step[1]
    put = RIGHTS[step[0]]
    there = target_schema(schema, step)[table]
    new_rows, new_complement = put(schema[table], there, step, left[table], complement)
    right = copy_state(left)
    right[table] = new_rows
    return right, new_complement


def column_left(schema, step, right, complement):
    """Put left of a step on columns: return the left state and the new complement."""
    table = step[1]
    put = LEFTS[step[0]]
    here = target_schema(schema, step)[table]
    new_rows, new_complement = put(here, schema[table], step, right[table], complement)
    left = copy_state(right)
    left[table] = new_rows
    return left, new_complement
