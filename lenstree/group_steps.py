"""The steps extract and inline: their errors and the schemas that they make."""

from lenstree.schema import column_called, has_twice
from lenstree.step_codes import (
    bare_description,
    can_be_joined,
    chosen_columns,
    joined_columns,
    key_kind,
    key_name,
    lacks,
    new_table_code,
    other_columns,
    uses_one,
    vanishing_code,
    with_columns,
    with_table,
    without_table,
)


def extract_code(schema, step):
    """Return the code of the error of this step, or ""."""
    _, table, column, columns, other = step
    named = (column,) + columns
    if lacks(schema, table, named):
        return "missing"
    if key_name(schema[table]) in named:
        return "key"
    if len(columns) == 0 or has_twice(named):
        return "columns"
    if uses_one(schema[table], columns):
        return "used"
    return new_table_code(schema, other)


def inline_code(schema, step):
    """Return the code of the error of this step, or ""."""
    _, table, column, other = step
    if lacks(schema, table, [column]) or other not in schema:
        return "missing"
    if column == key_name(schema[table]):
        return "key"
    kind = column_called(schema[table], column)[1]
    if not can_be_joined(schema, table, other) or kind != key_kind(schema[other]):
        return "columns"
    return vanishing_code(schema, other)


def extract_target(schema, step):
    """Return the right schema of this step."""
    _, table, column, columns, other = step
    old = schema[table]
    left = with_table(schema, table, with_columns(old, other_columns(old, columns)))
    key_column = (column, column_called(old, column)[1], False)
    return with_table(left, other, bare_description([key_column] + chosen_columns(old, columns)))


def inline_target(schema, step):
    """Return the right schema of this step."""
    table = step[1]
    other = step[3]
    wide = with_columns(schema[table], joined_columns(schema, table, other))
    return with_table(without_table(schema, other), table, wide)


def group_step_code(schema, step):
    """Return the code of the error of extract or inline, or "" if it can be applied."""
    if step[0] == "extract":
        return extract_code(schema, step)
    return inline_code(schema, step)


def group_step_target(schema, step):
    """Return the right schema of extract or inline, which can be applied."""
    if step[0] == "extract":
        return extract_target(schema, step)
    return inline_target(schema, step)
