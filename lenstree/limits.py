"""The lenses of the steps on constraints.

The bound side has the constraint, the free side does not have it. Rows that break it are hidden from the bound side.
"""

from lenstree.conditions import holds
from lenstree.errors import LensError
from lenstree.rests import value_at
from lenstree.schema import column_names
from lenstree.states import copy_state

ADDING_KINDS = ("add_check", "add_unique", "add_reference")


def has_row(table_rows, key, rest):
    """Tell whether the rows have the key with an equal rest."""
    return table_rows.get(key) == rest


def without(table_rows, hidden):
    """Return the rows whose keys are not among those of the hidden ones."""
    return {key: rest for key, rest in table_rows.items() if key not in hidden}


def failing(schema, step, table_rows):
    """Return those of the rows for which the condition of the step does not hold."""
    _, table, condition = step
    names = column_names(schema[table])
    return {key: rest for key, rest in table_rows.items() if not holds(condition, names, (key,) + rest)}


def in_turn(table_rows, shown):
    """Return the list of the keys of the rows: first those of the rows that were shown, then the others."""
    first = [key for key in sorted(table_rows) if has_row(shown, key, table_rows[key])]
    return first + [key for key in sorted(table_rows) if not has_row(shown, key, table_rows[key])]


def repeating(schema, step, table_rows, shown):
    """Return those of the rows whose value in the column of the step another row has that comes first."""
    _, table, column = step
    found = {}
    seen = {}
    for key in in_turn(table_rows, shown):
        value = value_at(schema[table], column, table_rows[key])
        if value is not None and value in seen:
            found[key] = table_rows[key]
        seen[value] = True
    return found


def leading_nowhere(schema, step, table_rows, goals):
    """Return those of the rows whose value in the column of the step is not null and not one of the goals."""
    _, table, column, _ = step
    found = {}
    for key, rest in table_rows.items():
        value = value_at(schema[table], column, rest)
        if value is not None and value not in goals:
            found[key] = rest
    return found


def rows_to_hide(schema, step, state, complement):
    """Return the rows of the free side that the bound side does not show, when they are put there."""
    table_rows = state[step[1]]
    if step[0] in ("add_check", "drop_check"):
        return failing(schema, step, table_rows)
    hidden = {key: rest for key, rest in table_rows.items() if has_row(complement["hidden"], key, rest)}
    others = without(table_rows, hidden)
    if step[0] in ("add_unique", "drop_unique"):
        hidden.update(repeating(schema, step, others, complement["shown"]))
    else:
        hidden.update(leading_nowhere(schema, step, others, state[step[3]]))
    return hidden


def new_complement(step, hidden, table_rows):
    """Return the complement with the hidden rows and, if the kind of the step asks for it, those of the bound side."""
    if step[0] in ("add_unique", "drop_unique"):
        return {"hidden": hidden, "shown": dict(table_rows)}
    return {"hidden": hidden}


def bind(schema, step, state, complement):
    """Put a state of the free side to the bound side."""
    table = step[1]
    hidden = rows_to_hide(schema, step, state, complement)
    result = copy_state(state)
    result[table] = without(state[table], hidden)
    return result, new_complement(step, hidden, result[table])


def rows_to_show(schema, step, complement):
    """Return the hidden rows that the free side shows, when a state is put there."""
    if step[0] in ("add_check", "drop_check"):
        return failing(schema, step, complement["hidden"])
    return dict(complement["hidden"])


def release(schema, step, state, complement):
    """Put a state of the bound side to the free side, or raise LensError."""
    table = step[1]
    hidden = rows_to_show(schema, step, complement)
    both = [key for key in state[table] if key in hidden]
    if both != []:
        raise LensError("hidden", table, min(both))
    result = copy_state(state)
    result[table].update(hidden)
    return result, new_complement(step, hidden, state[table])


def limit_right(schema, step, left, complement):
    """Put right of a step on constraints: return the right state and the new complement, or raise LensError."""
    if step[0] in ADDING_KINDS:
        return bind(schema, step, left, complement)
    return release(schema, step, left, complement)


def limit_left(schema, step, right, complement):
    """Put left of a step on constraints: return the left state and the new complement, or raise LensError."""
    if step[0] in ADDING_KINDS:
        return release(schema, step, right, complement)
    return bind(schema, step, right, complement)
