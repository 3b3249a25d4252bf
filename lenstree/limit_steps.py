"""Steps on constraints: their errors and the schemas that they make."""

from lenstree.conditions import fits
from lenstree.schema import MOST_LIMITS, column_called, copy_schema, is_referenced
from lenstree.step_codes import key_kind, key_name, lacks


def full_code(schema, table, part):
    """Return the first of the codes "referenced" and "limit" that applies to one more constraint, or ""."""
    if is_referenced(schema, table):
        return "referenced"
    if len(schema[table][part]) >= MOST_LIMITS:
        return "limit"
    return ""


def drop_code(schema, table, part, item):
    """Return the first of the codes "missing" and "referenced" that applies to the loss of a constraint, or ""."""
    if table not in schema or item not in schema[table][part]:
        return "missing"
    if is_referenced(schema, table):
        return "referenced"
    return ""


def add_check_code(schema, step):
    """Return the code of the error of this step, or ""."""
    _, table, condition = step
    if table not in schema:
        return "missing"
    if not fits(condition, schema[table]["columns"]):
        return "condition"
    return full_code(schema, table, "checks")


def add_unique_code(schema, step):
    """Return the code of the error of this step, or ""."""
    _, table, column = step
    if lacks(schema, table, [column]):
        return "missing"
    if column == key_name(schema[table]):
        return "key"
    if column in schema[table]["uniques"]:
        return "taken"
    return full_code(schema, table, "uniques")


def add_reference_code(schema, step):
    """Return the code of the error of this step, or ""."""
    _, table, column, other = step
    if lacks(schema, table, [column]) or other not in schema:
        return "missing"
    if column == key_name(schema[table]):
        return "key"
    if table == other:
        return "columns"
    if column_called(schema[table], column)[1] != key_kind(schema[other]):
        return "kind"
    if (column, other) in schema[table]["references"]:
        return "taken"
    return full_code(schema, table, "references")


def constraint_of(step):
    """Return the part of the description that the step changes, and what is added to it or removed from it."""
    kind = step[0]
    if kind == "add_check" or kind == "drop_check":
        return ("checks", step[2])
    if kind == "add_unique" or kind == "drop_unique":
        return ("uniques", step[2])
    return ("references", (step[2], step[3]))


def limit_step_code(schema, step):
    """Return the code of the error of a step on constraints, or "" if it can be applied."""
    kind = step[0]
    table = step[1]
    if kind == "add_check":
        return add_check_code(schema, step)
    if kind == "add_unique":
        return add_unique_code(schema, step)
    if kind == "add_reference":
        return add_reference_code(schema, step)
    part, item = constraint_of(step)
    return drop_code(schema, table, part, item)


def limit_step_target(schema, step):
    """Return the right schema of a step on constraints that can be applied."""
    result = copy_schema(schema)
    part, item = constraint_of(step)
    constraints = result[step[1]][part]
    if step[0] in ("add_check", "add_unique", "add_reference"):
        constraints.append(item)
    else:
        constraints.remove(item)
    return result
