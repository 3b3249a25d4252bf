"""Schemas: which ones are valid, and simple questions about them."""

from lenstree.conditions import fits, mentions
from lenstree.errors import SchemaError
from lenstree.values import KINDS

MOST_TABLES = 6
MOST_COLUMNS = 8
# Of checks, of uniques and of references a table has at most this many of each.
MOST_LIMITS = 4
MOST_LETTERS = 20
FIRST_LETTERS = "abcdefghijklmnopqrstuvwxyz"
LETTERS = "abcdefghijklmnopqrstuvwxyz0123456789_"


def is_name(thing):
    """Tell whether anything is a name."""
    if not isinstance(thing, str) or thing == "" or len(thing) > MOST_LETTERS:
        return False
    return thing[0] in FIRST_LETTERS and all([letter in LETTERS for letter in thing])


def has_twice(items):
    """Tell whether something stands more than once in a list or tuple."""
    return len(set(items)) < len(items)


def column_names(description):
    """Return the list of the names of the columns."""
    return [column[0] for column in description["columns"]]


def column_called(description, name):
    """Return the column with this name, which must be there."""
    return description["columns"][column_names(description).index(name)]


def is_other_column(description, name):
    """Tell whether the table has a column with this name that is not its key column."""
    return name in column_names(description)[1:]


def are_columns(columns):
    """Tell whether a list or tuple of columns, whose names are names, may be that of a table."""
    if len(columns) < 1 or len(columns) > MOST_COLUMNS:
        return False
    if has_twice([column[0] for column in columns]):
        return False
    return all([column[1] in KINDS for column in columns]) and not columns[0][2]


def are_checks(description):
    """Tell whether the checks of a table are as they must be."""
    checks = description["checks"]
    return len(checks) <= MOST_LIMITS and all([fits(check, description["columns"]) for check in checks])


def are_uniques(description):
    """Tell whether the uniques of a table are as they must be."""
    uniques = description["uniques"]
    if len(uniques) > MOST_LIMITS or has_twice(uniques):
        return False
    return all([is_other_column(description, name) for name in uniques])


def leads_to(schema, table, reference):
    """Tell whether a reference of the table is as it must be."""
    name, other = reference
    if not is_other_column(schema[table], name) or other not in schema or other == table:
        return False
    # The other table is checked by itself only later, so it may be without columns here.
    if len(schema[other]["columns"]) == 0:
        return False
    return schema[other]["columns"][0][1] == column_called(schema[table], name)[1]


def are_references(schema, table):
    """Tell whether the references of the table are as they must be."""
    references = schema[table]["references"]
    if len(references) > MOST_LIMITS or has_twice(references):
        return False
    return all([leads_to(schema, table, reference) for reference in references])


def table_code(schema, table):
    """Return the first code that applies to the table, or ""."""
    description = schema[table]
    if not all([is_name(name) for name in [table] + column_names(description)]):
        return "name"
    if not are_columns(description["columns"]):
        return "columns"
    if not are_checks(description):
        return "checks"
    if not are_uniques(description):
        return "uniques"
    if not are_references(schema, table):
        return "references"
    return ""


def check_schema(schema):
    """Raise SchemaError if the schema is not valid."""
    if len(schema) > MOST_TABLES:
        raise SchemaError("tables", "")
    for table in sorted(schema):
        code = table_code(schema, table)
        if code != "":
            raise SchemaError(code, table)


def copy_description(description):
    """Return an equal table description that shares no list with it."""
    return {
        "columns": list(description["columns"]),
        "checks": list(description["checks"]),
        "uniques": list(description["uniques"]),
        "references": list(description["references"]),
    }


def copy_schema(schema):
    """Return an equal schema that shares no list or dict with it."""
    return {table: copy_description(schema[table]) for table in schema}


def is_used(description, column):
    """Tell whether a check, the uniques or a reference of the table uses the column."""
    if any([mentions(check, column) for check in description["checks"]]):
        return True
    return column in description["uniques"] or column in [name for name, _ in description["references"]]


def is_referenced(schema, table):
    """Tell whether a reference of some table leads to the table."""
    return any([other == table for name in schema for _, other in schema[name]["references"]])
