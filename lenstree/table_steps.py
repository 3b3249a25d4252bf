"""Steps on tables other than extract and inline: their errors and the schemas that they make."""

from lenstree.conditions import fits
from lenstree.schema import are_columns, copy_schema, has_twice, is_name, is_referenced
from lenstree.step_codes import (
    bare_description,
    can_be_joined,
    chosen_columns,
    free_code,
    joined_columns,
    key_kind,
    new_table_code,
    other_columns,
    vanishing_code,
    with_columns,
    with_table,
    without_table,
)


def rename_table_code(schema, step):
    """Return the code of the error of this step, or ""."""
    _, table, name = step
    if table not in schema:
        return "missing"
    if not is_name(name):
        return "name"
    if name in schema:
        return "taken"
    return ""


def create_table_code(schema, step):
    """Return the code of the error of this step, or ""."""
    _, table, columns = step
    code = new_table_code(schema, table)
    if code != "":
        return code
    if not all([is_name(column[0]) for column in columns]) or not are_columns(columns):
        return "columns"
    return ""


def drop_table_code(schema, step):
    """Return the code of the error of this step, or ""."""
    _, table = step
    if table not in schema:
        return "missing"
    if is_referenced(schema, table):
        return "referenced"
    return ""


def decompose_code(schema, step):
    """Return the code of the error of this step, or ""."""
    _, table, other, columns = step
    code = free_code(schema, table, columns)
    if code != "":
        return code
    if len(columns) == 0 or has_twice(columns):
        return "columns"
    return new_table_code(schema, other)


def recompose_code(schema, step):
    """Return the code of the error of this step, or ""."""
    _, table, other = step
    if table not in schema or other not in schema:
        return "missing"
    if not can_be_joined(schema, table, other) or key_kind(schema[table]) != key_kind(schema[other]):
        return "columns"
    return vanishing_code(schema, other)


def partition_code(schema, step):
    """Return the code of the error of this step, or ""."""
    _, table, other, condition = step
    if table not in schema:
        return "missing"
    if not fits(condition, schema[table]["columns"]):
        return "condition"
    if is_referenced(schema, table):
        return "referenced"
    return new_table_code(schema, other)


def union_code(schema, step):
    """Return the code of the error of this step, or ""."""
    _, table, other, condition = step
    if table not in schema or other not in schema:
        return "missing"
    if table == other or schema[table] != schema[other]:
        return "columns"
    if not fits(condition, schema[table]["columns"]):
        return "condition"
    if is_referenced(schema, table) or is_referenced(schema, other):
        return "referenced"
    return ""


def move_code(schema, step):
    """Return the code of the error of this step, or ""."""
    _, table, other, condition = step
    if table not in schema or other not in schema:
        return "missing"
    if table == other or schema[table]["columns"] != schema[other]["columns"]:
        return "columns"
    if not fits(condition, schema[table]["columns"]):
        return "condition"
    if is_referenced(schema, table):
        return "referenced"
    return ""


def references_renamed(description, table, name):
    """Return the description in which references to the table lead to the one called `name`."""
    result = with_columns(description, description["columns"])
    result["references"] = [(column, name if other == table else other) for column, other in description["references"]]
    return result


def rename_table_target(schema, step):
    """Return the right schema of this step."""
    _, table, name = step
    result = {}
    for old in schema:
        new = name if old == table else old
        result[new] = references_renamed(schema[old], table, name)
    return result


def create_table_target(schema, step):
    """Return the right schema of this step."""
    _, table, columns = step
    return with_table(schema, table, bare_description(columns))


def drop_table_target(schema, step):
    """Return the right schema of this step."""
    _, table = step
    return without_table(schema, table)


def decompose_target(schema, step):
    """Return the right schema of this step."""
    _, table, other, columns = step
    old = schema[table]
    left = with_table(schema, table, with_columns(old, other_columns(old, columns)))
    return with_table(left, other, bare_description(old["columns"][:1] + chosen_columns(old, columns)))


def recompose_target(schema, step):
    """Return the right schema of this step."""
    _, table, other = step
    wide = with_columns(schema[table], joined_columns(schema, table, other))
    return with_table(without_table(schema, other), table, wide)


def partition_target(schema, step):
    """Return the right schema of this step."""
    table, other = step[1:3]
    return with_table(schema, other, schema[table])


def union_target(schema, step):
    """Return the right schema of this step."""
    return without_table(schema, step[2])


def move_target(schema, step):
    """Return the right schema of this step, which is the left one."""
    return copy_schema(schema)


CODES = {
    "rename_table": rename_table_code,
    "create_table": create_table_code,
    "drop_table": drop_table_code,
    "decompose": decompose_code,
    "recompose": recompose_code,
    "partition": partition_code,
    "union": union_code,
    "move": move_code,
}
TARGETS = {
    "rename_table": rename_table_target,
    "create_table": create_table_target,
    "drop_table": drop_table_target,
    "decompose": decompose_target,
    "recompose": recompose_target,
    "partition": partition_target,
    "union": union_target,
    "move": move_target,
}


def table_step_code(schema, step):
    """Return the code of the error of one of these steps, or "" if it can be applied."""
    find_code = CODES[step[0]]
    return find_code(schema, step)


def table_step_target(schema, step):
    """Return the right schema of one of these steps that can be applied."""
    make_target = TARGETS[step[0]]
    return make_target(schema, step)
