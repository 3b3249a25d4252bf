"""The lenses of steps on tables other than extract and inline."""

from lenstree.conditions import holds
from lenstree.errors import LensError
from lenstree.rests import moved_rest, values_at
from lenstree.schema import column_names
from lenstree.states import copy_state
from lenstree.steps import target_schema
from lenstree.values import plain_value


def with_name(state, old, new):
    """Return the state in which the table `old` is called `new`."""
    return {new if table == old else table: dict(state[table]) for table in state}


def with_rows(state, table, complement):
    """Return the state with the table, which has the rows of the complement, and the new complement."""
    result = copy_state(state)
    result[table] = dict(complement["rows"])
    return result, {"rows": dict(complement["rows"])}


def without_rows(state, table):
    """Return the state without the table, and the complement that has its rows."""
    result = copy_state(state)
    del result[table]
    return result, {"rows": dict(state[table])}


def refuse_shared(code, step, keys, others):
    """Raise LensError with the code if some of the keys are among the others."""
    shared = [key for key in keys if key in others]
    if shared != []:
        raise LensError(code, step[1], min(shared))


def with_two(state, table, table_rows, other, other_rows):
    """Return the state in which both tables have these rows."""
    result = copy_state(state)
    result[table] = table_rows
    result[other] = other_rows
    return result


def with_one(state, table, table_rows, other):
    """Return the state in which the table has these rows and the other table is gone."""
    result = copy_state(state)
    result[table] = table_rows
    del result[other]
    return result


def moved_names(narrow, step):
    """Return the names of the columns that decompose or recompose moves, by the schema with both tables."""
    return column_names(narrow[step[2]])[1:]


def take_apart(wide, narrow, step, state, complement):
    """Put the rows of the wide table to the side that has both tables. `wide` and `narrow` are the two schemas."""
    table, other = step[1:3]
    extra = complement["extra"]
    refuse_shared("hidden", step, list(state[table]), extra)
    names = moved_names(narrow, step)
    table_rows = {}
    other_rows = dict(extra)
    missing = {}
    for key, rest in state[table].items():
        part = values_at(wide[table], names, rest)
        table_rows[key] = moved_rest(wide[table], narrow[table], rest, {})
        if key in complement["missing"] and complement["missing"][key] == part:
            missing[key] = part
        else:
            other_rows[key] = part
    result = with_two(state, table, table_rows, other, other_rows)
    return result, {"missing": missing, "extra": dict(extra)}


def put_together(wide, narrow, step, state, complement):
    """Put the rows of both tables to the side that has the wide table. `wide` and `narrow` are the two schemas."""
    table, other = step[1:3]
    names = moved_names(narrow, step)
    plain = tuple([plain_value(kind, nullable) for _, kind, nullable in narrow[other]["columns"][1:]])
    table_rows = {}
    missing = {}
    for key, rest in state[table].items():
        part = state[other].get(key)
        if part is None:
            part = complement["missing"].get(key, plain)
            missing[key] = part
        table_rows[key] = moved_rest(narrow[table], wide[table], rest, dict(zip(names, part)))
    extra = {key: part for key, part in state[other].items() if key not in state[table]}
    return with_one(state, table, table_rows, other), {"missing": missing, "extra": extra}


def flag_of(flags, key, rest, otherwise):
    """Return the flag that is remembered for the key with an equal rest, or `otherwise` if there is none."""
    if key in flags and flags[key][0] == rest:
        return flags[key][1]
    return otherwise


def deal_out(schema, step, state, complement):
    """Put the rows of the one table of partition or union to the side that has both tables."""
    _, table, other, condition = step
    names = column_names(schema[table])
    sides = {}
    for key, rest in state[table].items():
        sides[key] = (rest, flag_of(complement["sides"], key, rest, holds(condition, names, (key,) + rest)))
    table_rows = {key: rest for key, (rest, flag) in sides.items() if flag}
    other_rows = {key: rest for key, (rest, flag) in sides.items() if not flag}
    return with_two(state, table, table_rows, other, other_rows), {"sides": sides}


def gather(step, state):
    """Put the rows of both tables of partition or union to the side that has one table."""
    table, other = step[1:3]
    refuse_shared("double", step, list(state[table]), state[other])
    sides = {key: (rest, True) for key, rest in state[table].items()}
    sides.update({key: (rest, False) for key, rest in state[other].items()})
    table_rows = {key: rest for key, (rest, _) in sides.items()}
    return with_one(state, table, table_rows, other), {"sides": sides}


def move_right(schema, step, left, complement):
    """Put right of a step of the kind move."""
    _, table, other, condition = step
    names = column_names(schema[table])
    marks = {}
    for key, rest in left[table].items():
        flag = flag_of(complement["marks"], key, rest, holds(condition, names, (key,) + rest))
        marks[key] = (rest, flag and key not in left[other])
    table_rows = {key: rest for key, (rest, flag) in marks.items() if not flag}
    other_rows = dict(left[other])
    other_rows.update({key: rest for key, (rest, flag) in marks.items() if flag})
    return with_two(left, table, table_rows, other, other_rows), {"marks": marks}


def was_moved(marks, key):
    """Tell whether the marks have the key as one of a row that moved."""
    # A mark counts by its key alone here, because the row may have changed since it was moved.
    return key in marks and marks[key][1]


def move_left(step, right, complement):
    """Put left of a step of the kind move."""
    table, other = step[1:3]
    marks = {key: (rest, False) for key, rest in right[table].items()}
    other_rows = {}
    for key, rest in right[other].items():
        if was_moved(complement["marks"], key) and key not in right[table]:
            marks[key] = (rest, True)
        else:
            other_rows[key] = rest
    table_rows = {key: rest for key, (rest, _) in marks.items()}
    return with_two(right, table, table_rows, other, other_rows), {"marks": marks}


def table_right(schema, step, left, complement):
    """Put right of one of these steps: return the right state and the new complement, or raise LensError."""
    kind = step[0]
    if kind == "rename_table":
        return with_name(left, step[1], step[2]), {}
    if kind == "create_table":
        return with_rows(left, step[1], complement)
    if kind == "drop_table":
        return without_rows(left, step[1])
    if kind == "decompose":
        return take_apart(schema, target_schema(schema, step), step, left, complement)
    if kind == "recompose":
        return put_together(target_schema(schema, step), schema, step, left, complement)
    if kind == "partition":
        return deal_out(schema, step, left, complement)
    if kind == "union":
        return gather(step, left)
    return move_right(schema, step, left, complement)


def table_left(schema, step, right, complement):
    """Put left of one of these steps: return the left state and the new complement, or raise LensError."""
    kind = step[0]
    if kind == "rename_table":
        return with_name(right, step[2], step[1]), {}
    if kind == "create_table":
        return without_rows(right, step[1])
    if kind == "drop_table":
        return with_rows(right, step[1], complement)
    if kind == "decompose":
        return put_together(schema, target_schema(schema, step), step, right, complement)
    if kind == "recompose":
        return take_apart(target_schema(schema, step), schema, step, right, complement)
    if kind == "partition":
        return gather(step, right)
    if kind == "union":
        return deal_out(schema, step, right, complement)
    return move_left(step, right, complement)
