"""Steps on columns: their errors and the schemas that they make."""

from lenstree.conditions import renamed
from lenstree.schema import MOST_COLUMNS, column_called, column_names, is_name
from lenstree.step_codes import free_code, lacks, other_columns, with_columns, with_table
from lenstree.values import KINDS, fits_kind, is_separator


def new_column_code(schema, table, name):
    """Return the first of the codes "missing", "name" and "taken" that applies to a new name, or ""."""
    if table not in schema:
        return "missing"
    if not is_name(name):
        return "name"
    if name in column_names(schema[table]):
        return "taken"
    return ""


def rename_column_code(schema, step):
    """Return the code of the error of this step, or ""."""
    _, table, column, name = step
    if lacks(schema, table, [column]):
        return "missing"
    return new_column_code(schema, table, name)


def reorder_code(schema, step):
    """Return the code of the error of this step, or ""."""
    _, table, names = step
    if table not in schema:
        return "missing"
    own = column_names(schema[table])
    if len(names) != len(own) or set(names) != set(own) or names[0] != own[0]:
        return "columns"
    return ""


def add_column_code(schema, step):
    """Return the code of the error of this step, or ""."""
    _, table, name, kind, nullable, default = step
    code = new_column_code(schema, table, name)
    if code != "":
        return code
    if len(schema[table]["columns"]) >= MOST_COLUMNS:
        return "limit"
    if kind not in KINDS or not fits_kind(default, kind, nullable):
        return "kind"
    return ""


def drop_column_code(schema, step):
    """Return the code of the error of this step, or ""."""
    _, table, column, default = step
    code = free_code(schema, table, [column])
    if code != "":
        return code
    _, kind, nullable = column_called(schema[table], column)
    if not fits_kind(default, kind, nullable):
        return "kind"
    return ""


def convert_code(schema, step):
    """Return the code of the error of this step, or ""."""
    table, column, kind = step[1:4]
    code = free_code(schema, table, [column])
    if code != "":
        return code
    if kind not in KINDS:
        return "kind"
    return ""


def are_texts(description, columns):
    """Tell whether all these columns of the table are of kind "text"."""
    return all([column_called(description, column)[1] == "text" for column in columns])


def split_column_code(schema, step):
    """Return the code of the error of this step, or ""."""
    _, table, column, first, second, separator = step
    code = free_code(schema, table, [column])
    if code != "":
        return code
    if not are_texts(schema[table], [column]) or not is_separator(separator):
        return "kind"
    if not is_name(first) or not is_name(second):
        return "name"
    others = [name for name in column_names(schema[table]) if name != column]
    if first == second or first in others or second in others:
        return "taken"
    if len(schema[table]["columns"]) >= MOST_COLUMNS:
        return "limit"
    return ""


def merge_columns_code(schema, step):
    """Return the code of the error of this step, or ""."""
    _, table, first, second, name, separator = step
    code = free_code(schema, table, [first, second])
    if code != "":
        return code
    if not are_texts(schema[table], [first, second]) or not is_separator(separator):
        return "kind"
    if not is_name(name):
        return "name"
    others = [other for other in column_names(schema[table]) if other != first and other != second]
    if first == second or name in others:
        return "taken"
    return ""


def replaced(description, name, columns):
    """Return the columns of the table with these ones in the place of the one called `name`."""
    at = column_names(description).index(name)
    return description["columns"][:at] + columns + description["columns"][at + 1:]


def rename_column_target(schema, step):
    """Return the right schema of this step."""
    _, table, column, name = step
    old = schema[table]
    _, kind, nullable = column_called(old, column)
    new = {
        "columns": replaced(old, column, [(name, kind, nullable)]),
        "checks": [renamed(check, column, name) for check in old["checks"]],
        "uniques": [name if unique == column else unique for unique in old["uniques"]],
        "references": [(name if own == column else own, other) for own, other in old["references"]],
    }
    return with_table(schema, table, new)


def reorder_target(schema, step):
    """Return the right schema of this step."""
    _, table, names = step
    columns = [column_called(schema[table], name) for name in names]
    return with_table(schema, table, with_columns(schema[table], columns))


def add_column_target(schema, step):
    """Return the right schema of this step."""
    table, name, kind, nullable = step[1:5]
    columns = schema[table]["columns"] + [(name, kind, nullable)]
    return with_table(schema, table, with_columns(schema[table], columns))


def drop_column_target(schema, step):
    """Return the right schema of this step."""
    table, column = step[1:3]
    columns = other_columns(schema[table], [column])
    return with_table(schema, table, with_columns(schema[table], columns))


def convert_target(schema, step):
    """Return the right schema of this step."""
    _, table, column, kind, nullable = step
    columns = replaced(schema[table], column, [(column, kind, nullable)])
    return with_table(schema, table, with_columns(schema[table], columns))


def split_column_target(schema, step):
    """Return the right schema of this step."""
    table, column, first, second = step[1:5]
    nullable = column_called(schema[table], column)[2]
    columns = replaced(schema[table], column, [(first, "text", nullable), (second, "text", nullable)])
    return with_table(schema, table, with_columns(schema[table], columns))


def merge_columns_target(schema, step):
    """Return the right schema of this step."""
    table, first, second, name = step[1:5]
    old = schema[table]
    nullable = column_called(old, first)[2] and column_called(old, second)[2]
    # The second column goes first, because the new one may have its name.
    rest = with_columns(old, other_columns(old, [second]))
    columns = replaced(rest, first, [(name, "text", nullable)])
    return with_table(schema, table, with_columns(old, columns))


CODES = {
    "rename_column": rename_column_code,
    "reorder": reorder_code,
    "add_column": add_column_code,
    "drop_column": drop_column_code,
    "convert": convert_code,
    "split_column": split_column_code,
    "merge_columns": merge_columns_code,
}
TARGETS = {
    "rename_column": rename_column_target,
    "reorder": reorder_target,
    "add_column": add_column_target,
    "drop_column": drop_column_target,
    "convert": convert_target,
    "split_column": split_column_target,
    "merge_columns": merge_columns_target,
}


def column_step_code(schema, step):
    """Return the code of the error of a step on columns, or "" if it can be applied."""
    find_code = CODES[step[0]]
    return find_code(schema, step)


def column_step_target(schema, step):
    """Return the right schema of a step on columns that can be applied."""
    make_target = TARGETS[step[0]]
    return make_target(schema, step)
