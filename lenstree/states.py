"""States: the rows of the tables of a schema, and the faults that a state may have."""

from lenstree.conditions import holds
from lenstree.schema import column_names
from lenstree.values import fits_kind

MOST_ROWS = 60


def empty_state(schema):
    """Return the state without rows."""
    return {table: {} for table in schema}


def copy_state(state):
    """Return an equal state that shares no dict with it."""
    return {table: dict(state[table]) for table in state}


def fits_columns(row, columns):
    """Tell whether a row has one value for each column, and each value fits its column."""
    if len(row) != len(columns):
        return False
    return all([fits_kind(value, kind, nullable) for value, (_, kind, nullable) in zip(row, columns)])


def fits_schema(schema, state):
    """Tell whether a dict of dicts of tuples is a state of the schema."""
    if set(state) != set(schema):
        return False
    for table in schema:
        columns = schema[table]["columns"]
        if not all([fits_columns((key,) + rest, columns) for key, rest in state[table].items()]):
            return False
    return True


def rows(state, table):
    """Return the list of the rows of the table in ascending order of keys."""
    return [(key,) + state[table][key] for key in sorted(state[table])]


def excess_keys(listed):
    """Return the keys of those of the listed rows that are too many."""
    return [row[0] for row in listed[MOST_ROWS:]]


def unchecked_keys(description, listed):
    """Return the keys of the listed rows for which a check of the table does not hold."""
    names = column_names(description)
    return [row[0] for row in listed if not all([holds(check, names, row) for check in description["checks"]])]


def repeated_keys(description, listed):
    """Return the keys of the listed rows that have a value of an earlier one in a column of the uniques."""
    names = column_names(description)
    places = [names.index(name) for name in description["uniques"]]
    found = []
    seen = {}
    for row in listed:
        given = [(place, row[place]) for place in places if row[place] is not None]
        if any([pair in seen for pair in given]):
            found.append(row[0])
        for pair in given:
            seen[pair] = True
    return found


def leads_nowhere(row, names, references, state):
    """Tell whether a reference of the row does not lead to a row of its table."""
    for name, other in references:
        value = row[names.index(name)]
        if value is not None and value not in state[other]:
            return True
    return False


def lost_keys(description, listed, state):
    """Return the keys of the listed rows of which a reference does not lead to a row."""
    names = column_names(description)
    return [row[0] for row in listed if leads_nowhere(row, names, description["references"], state)]


def table_fault(schema, state, table):
    """Return the first fault of the table, or None."""
    description = schema[table]
    listed = rows(state, table)
    for code, keys in (
        ("full", excess_keys(listed)),
        ("check", unchecked_keys(description, listed)),
        ("unique", repeated_keys(description, listed)),
        ("reference", lost_keys(description, listed, state)),
    ):
        if keys != []:
            return (code, table, keys[0])
    return None


def first_fault(schema, state):
    """Return the first fault of the state, or None if it is sound."""
    for table in sorted(schema):
        fault = table_fault(schema, state, table)
        if fault is not None:
            return fault
    return None
