"""The lenses of all steps, and their empty complements."""

from lenstree.columns import column_left, column_right
from lenstree.groups import group_left, group_right
from lenstree.kinds import COLUMN_KINDS, GROUP_KINDS, TABLE_KINDS
from lenstree.limits import limit_left, limit_right
from lenstree.tables import table_left, table_right

ENTRIES = {
    "rename_column": (),
    "reorder": (),
    "add_column": ("values",),
    "drop_column": ("values",),
    "convert": ("pairs",),
    "split_column": ("pairs",),
    "merge_columns": ("pairs",),
    "rename_table": (),
    "create_table": ("rows",),
    "drop_table": ("rows",),
    "decompose": ("missing", "extra"),
    "recompose": ("missing", "extra"),
    "partition": ("sides",),
    "union": ("sides",),
    "move": ("marks",),
    "extract": ("known", "apart"),
    "inline": ("known", "apart"),
    "add_check": ("hidden",),
    "drop_check": ("hidden",),
    "add_unique": ("hidden", "shown"),
    "drop_unique": ("hidden", "shown"),
    "add_reference": ("hidden",),
    "drop_reference": ("hidden",),
}


def empty_complement(step):
    """Return the empty complement of the step."""
    return {entry: {} for entry in ENTRIES[step[0]]}


def put_right(schema, step, left, complement):
    """Put right of any step: return the right state and the new complement, or raise LensError."""
    kind = step[0]
    if kind in COLUMN_KINDS:
        return column_right(schema, step, left, complement)
    if kind in TABLE_KINDS:
        return table_right(schema, step, left, complement)
    if kind in GROUP_KINDS:
        return group_right(schema, step, left, complement)
    return limit_right(schema, step, left, complement)


def put_left(schema, step, right, complement):
    """Put left of any step: return the left state and the new complement, or raise LensError."""
    kind = step[0]
    if kind in COLUMN_KINDS:
        return column_left(schema, step, right, complement)
    if kind in TABLE_KINDS:
        return table_left(schema, step, right, complement)
    if kind in GROUP_KINDS:
        return group_left(schema, step, right, complement)
    return limit_left(schema, step, right, complement)
