"""Conditions: alternatives of clauses over the columns of a row."""

from lenstree.values import fits_kind


def clause_fits(clause, kinds):
    """Tell whether a clause names a column of the dict of kinds and has an operand that suits it."""
    column, _, operand = clause
    # Any operator may stand with None here, as if each column were nullable.
    return column in kinds and fits_kind(operand, kinds[column], True)


def fits(condition, columns):
    """Tell whether the condition fits the columns."""
    kinds = {column[0]: column[1] for column in columns}
    return all([clause_fits(clause, kinds) for alternative in condition for clause in alternative])


def compares(value, operator, operand):
    """Tell whether a value that is not null compares with the operand as the operator says."""
    if operator == "=":
        return value == operand
    if operator == "!=":
        return value != operand
    if operator == "<":
        return value < operand
    if operator == "<=":
        return value <= operand
    if operator == ">":
        return value > operand
    return value >= operand


def clause_holds(clause, names, row):
    """Tell whether a clause holds for the row."""
    column, operator, operand = clause
    value = row[names.index(column)]
    if operator == "null":
        return value is None
    if operator == "given":
        return value is not None
    return value is not None and compares(value, operator, operand)


def holds(condition, names, row):
    """Tell whether the condition holds for the row."""
    for alternative in condition:
        if all([clause_holds(clause, names, row) for clause in alternative]):
            return True
    return False


def mentions(condition, name):
    """Tell whether some clause of the condition names the column."""
    return any([clause[0] == name for alternative in condition for clause in alternative])


def renamed_clause(clause, old, new):
    """Return the clause with the column `old` called `new`."""
    column, operator, operand = clause
    if column == old:
        return (new, operator, operand)
    return clause


def renamed(condition, old, new):
    """Return the condition with the column `old` called `new` in all clauses."""
    return tuple([tuple([renamed_clause(clause, old, new) for clause in alternative]) for alternative in condition])
