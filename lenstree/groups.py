"""The lenses of the steps extract and inline.

The wide side has one table; the narrow side has the table without the parts, and another one with a part per group.
"""

from lenstree.rests import moved_rest, value_at, values_at
from lenstree.schema import column_names
from lenstree.states import copy_state
from lenstree.steps import target_schema
from lenstree.values import plain_value


def part_names(narrow, other):
    """Return the names of the columns that make a part, by the schema of the narrow side."""
    return column_names(narrow[other])[1:]


def grouped(description, column, names, table_rows):
    """Return the dict from the keys of rows of the wide side to their pairs (group, part)."""
    return {
        key: (value_at(description, column, rest), values_at(description, names, rest))
        for key, rest in table_rows.items()
    }


def fresh_parts(members, known, apart):
    """Return the dict from groups to the part of their fresh row with the least key."""
    found = {}
    for key in sorted(members):
        group, part = members[key]
        is_fresh = known.get(group) != part and apart.get(key) != (group, part)
        if group is not None and is_fresh and group not in found:
            found[group] = part
    return found


def groups_that_stay(members, known):
    """Return the groups of which some row has the part that is known, as the keys of a dict."""
    return {group: True for group, part in members.values() if known.get(group) == part}


def parts_apart(members, other_rows):
    """Return those of the pairs (group, part) that the other table does not show, by their row keys."""
    return {key: (group, part) for key, (group, part) in members.items() if other_rows.get(group) != part}


def pull_apart(wide, narrow, names, state, complement):
    """Put a state of the wide side to the narrow side. `names` is as `names_of` gives it."""
    table, column, other = names
    members = grouped(wide[table], column, part_names(narrow, other), state[table])
    known = complement["known"]
    fresh = fresh_parts(members, known, complement["apart"])
    stay = groups_that_stay(members, known)
    other_rows = dict(known)
    other_rows.update({group: part for group, part in fresh.items() if group not in stay})
    result = copy_state(state)
    result[table] = {key: moved_rest(wide[table], narrow[table], rest, {}) for key, rest in state[table].items()}
    result[other] = other_rows
    return result, {"known": dict(other_rows), "apart": parts_apart(members, other_rows)}


def part_of(key, group, other_rows, apart, plain):
    """Return the part that a row of the narrow side gets back."""
    if key in apart and apart[key][0] == group:
        return apart[key][1]
    return other_rows.get(group, plain)


def put_together(wide, narrow, names, state, complement):
    """Put a state of the narrow side to the wide side. `names` is as `names_of` gives it."""
    table, column, other = names
    columns = part_names(narrow, other)
    plain = tuple([plain_value(kind, nullable) for _, kind, nullable in narrow[other]["columns"][1:]])
    table_rows = {}
    members = {}
    for key, rest in state[table].items():
        group = value_at(narrow[table], column, rest)
        part = part_of(key, group, state[other], complement["apart"], plain)
        members[key] = (group, part)
        table_rows[key] = moved_rest(narrow[table], wide[table], rest, dict(zip(columns, part)))
    result = copy_state(state)
    del result[other]
    result[table] = table_rows
    return result, {"known": dict(state[other]), "apart": parts_apart(members, state[other])}


def names_of(step):
    """Return the names of the table, the column of the groups and the other table."""
    return (step[1], step[2], step[-1])


def group_right(schema, step, left, complement):
    """Put right of extract or inline: return the right state and the new complement."""
    target = target_schema(schema, step)
    if step[0] == "extract":
        return pull_apart(schema, target, names_of(step), left, complement)
    return put_together(target, schema, names_of(step), left, complement)


def group_left(schema, step, right, complement):
    """Put left of extract or inline: return the left state and the new complement."""
    target = target_schema(schema, step)
    if step[0] == "extract":
        return put_together(schema, target, names_of(step), right, complement)
    return pull_apart(target, schema, names_of(step), right, complement)
