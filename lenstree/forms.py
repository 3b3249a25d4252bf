"""The form of complements: whether one is such as the lens of a step needs it.

A form is a column, which stands for the values that fit it; FLAG, which stands for True and False; or a list of forms,
which stands for the tuples that have an item for each of them. The functions of one kind of steps take the left schema,
the right schema and the step. They return a dict from the entries of the complement to the form of a key and an item.
"""

from lenstree.lens import ENTRIES
from lenstree.schema import column_called
from lenstree.steps import target_schema
from lenstree.values import fits_kind

FLAG = "flag"


def has_form(thing, form):
    """Tell whether anything has the form."""
    if form == FLAG:
        return isinstance(thing, bool)
    if isinstance(form, list):
        if not isinstance(thing, tuple) or len(thing) != len(form):
            return False
        return all([has_form(item, inner) for item, inner in zip(thing, form)])
    _, kind, nullable = form
    return fits_kind(thing, kind, nullable)


def key_column(schema, table):
    """Return the key column of the table."""
    return schema[table]["columns"][0]


def rest_columns(schema, table):
    """Return the columns of the table other than the key column."""
    return schema[table]["columns"][1:]


def forms_of_values(left, right, step):
    """Return the forms for add_column and drop_column."""
    table = step[1]
    wide = right if step[0] == "add_column" else left
    return {"values": (key_column(left, table), column_called(wide[table], step[2]))}


def forms_of_convert(left, right, step):
    """Return the forms for convert."""
    _, table, column, _, _ = step
    pair = [column_called(left[table], column), column_called(right[table], column)]
    return {"pairs": (key_column(left, table), pair)}


def forms_of_split(left, right, step):
    """Return the forms for split_column."""
    _, table, column, first, second, _ = step
    both = [column_called(right[table], first), column_called(right[table], second)]
    return {"pairs": (key_column(left, table), [column_called(left[table], column), both])}


def forms_of_merge(left, right, step):
    """Return the forms for merge_columns."""
    _, table, first, second, name, _ = step
    both = [column_called(left[table], first), column_called(left[table], second)]
    return {"pairs": (key_column(left, table), [column_called(right[table], name), both])}


def forms_of_rows(left, right, step):
    """Return the forms for create_table and drop_table."""
    table = step[1]
    side = right if step[0] == "create_table" else left
    return {"rows": (key_column(side, table), rest_columns(side, table))}


def forms_of_parts(left, right, step):
    """Return the forms for decompose and recompose."""
    narrow = right if step[0] == "decompose" else left
    pair = (key_column(left, step[1]), rest_columns(narrow, step[2]))
    return {"missing": pair, "extra": pair}


def forms_of_flags(left, right, step):
    """Return the forms for partition, union and move."""
    table = step[1]
    pair = (key_column(left, table), [rest_columns(left, table), FLAG])
    return {"marks": pair} if step[0] == "move" else {"sides": pair}


def forms_of_groups(left, right, step):
    """Return the forms for extract and inline."""
    table, column, other = (step[1], step[2], step[-1])
    narrow = right if step[0] == "extract" else left
    part = rest_columns(narrow, other)
    return {
        "known": (key_column(narrow, other), part),
        "apart": (key_column(left, table), [column_called(left[table], column), part]),
    }


def forms_of_limits(left, right, step):
    """Return the forms for the steps on constraints."""
    table = step[1]
    return {entry: (key_column(left, table), rest_columns(left, table)) for entry in ENTRIES[step[0]]}


FORMS = {
    "add_column": forms_of_values,
    "drop_column": forms_of_values,
    "convert": forms_of_convert,
    "split_column": forms_of_split,
    "merge_columns": forms_of_merge,
    "create_table": forms_of_rows,
    "drop_table": forms_of_rows,
    "decompose": forms_of_parts,
    "recompose": forms_of_parts,
    "partition": forms_of_flags,
    "union": forms_of_flags,
    "move": forms_of_flags,
    "extract": forms_of_groups,
    "inline": forms_of_groups,
    "add_check": forms_of_limits,
    "drop_check": forms_of_limits,
    "add_unique": forms_of_limits,
    "drop_unique": forms_of_limits,
    "add_reference": forms_of_limits,
    "drop_reference": forms_of_limits,
}


def entry_fits(entry, key_form, item_form):
    """Tell whether the keys and the items of an entry of a complement have these forms."""
    return all([has_form(key, key_form) and has_form(item, item_form) for key, item in entry.items()])


def fits_step(schema, step, complement):
    """Tell whether the complement has the form that the step needs, when the left schema is this one."""
    kind = step[0]
    if ENTRIES[kind] == ():
        return True
    form_of = FORMS[kind]
    forms = form_of(schema, target_schema(schema, step), step)
    return all([entry_fits(complement[entry], pair[0], pair[1]) for entry, pair in forms.items()])
