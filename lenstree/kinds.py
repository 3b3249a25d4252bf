"""The kinds of steps, grouped by the files that know them."""

COLUMN_KINDS = (
    "rename_column", "reorder", "add_column", "drop_column", "convert", "split_column", "merge_columns",
)
TABLE_KINDS = (
    "rename_table", "create_table", "drop_table", "decompose", "recompose", "partition", "union", "move",
)
GROUP_KINDS = ("extract", "inline")
