"""What the errors of several kinds of steps have in common."""

from lenstree.schema import (
    MOST_COLUMNS,
    MOST_TABLES,
    column_names,
    copy_description,
    copy_schema,
    has_twice,
    is_name,
    is_referenced,
    is_used,
)


def lacks(schema, table, columns):
    """Tell whether there is no such table, or the table lacks one of the columns."""
    if table not in schema:
        return True
    names = column_names(schema[table])
    return not all([column in names for column in columns])


def key_name(description):
    """Return the name of the key column."""
    return description["columns"][0][0]


def key_kind(description):
    """Return the kind of the key column."""
    return description["columns"][0][1]


def uses_one(description, columns):
    """Tell whether one of the columns is used in the table."""
    return any([is_used(description, column) for column in columns])


def has_limits(description):
    """Tell whether the table has checks, uniques or references."""
    return description["checks"] != [] or description["uniques"] != [] or description["references"] != []


def free_code(schema, table, columns):
    """Return the first of the codes "missing", "key" and "used" that applies to the columns, or ""."""
    if lacks(schema, table, columns):
        return "missing"
    if key_name(schema[table]) in columns:
        return "key"
    if uses_one(schema[table], columns):
        return "used"
    return ""


def new_table_code(schema, name):
    """Return the first of the codes "name", "taken" and "limit" that applies to a new table, or ""."""
    if not is_name(name):
        return "name"
    if name in schema:
        return "taken"
    if len(schema) >= MOST_TABLES:
        return "limit"
    return ""


def bare_description(columns):
    """Return the description of a table without checks, uniques and references."""
    return {"columns": list(columns), "checks": [], "uniques": [], "references": []}


def with_columns(description, columns):
    """Return the description with other columns."""
    result = copy_description(description)
    result["columns"] = list(columns)
    return result


def with_table(schema, table, description):
    """Return the schema in which the table has this description."""
    result = copy_schema(schema)
    result[table] = copy_description(description)
    return result


def without_table(schema, table):
    """Return the schema without the table."""
    result = copy_schema(schema)
    del result[table]
    return result


def chosen_columns(description, names):
    """Return the columns that have one of the names, in the order of the table."""
    return [column for column in description["columns"] if column[0] in names]


def other_columns(description, names):
    """Return the columns that have none of the names, in the order of the table."""
    return [column for column in description["columns"] if column[0] not in names]


def joined_columns(schema, table, other):
    """Return the columns of the table and behind them those of the other one except its key column."""
    return schema[table]["columns"] + schema[other]["columns"][1:]


def can_be_joined(schema, table, other):
    """Tell whether the columns of the other table, except its key column, can stand behind those of the table."""
    joined = joined_columns(schema, table, other)
    return table != other and len(joined) <= MOST_COLUMNS and not has_twice([column[0] for column in joined])


def vanishing_code(schema, table):
    """Return the first of the codes "used" and "referenced" that applies to a table that vanishes, or ""."""
    if has_limits(schema[table]):
        return "used"
    if is_referenced(schema, table):
        return "referenced"
    return ""
