"""Queries: the columns of their answers, and what is wrong with them.

The functions of one form take the schema, the query and the list of the columns of each of its inner queries. They
return the list of the columns of the answer, or raise QueryError.
"""

from lenstree.conditions import fits
from lenstree.errors import QueryError
from lenstree.schema import has_twice, is_name


def names_of(columns):
    """Return the list of the names of the columns."""
    return [column[0] for column in columns]


def column_named(columns, name):
    """Return the column with this name, or raise QueryError."""
    for column in columns:
        if column[0] == name:
            return column
    raise QueryError("column")


def columns_of_table(schema, query, inner):
    """Return the columns of ("table", name)."""
    _, name = query
    if name not in schema:
        raise QueryError("table")
    return list(schema[name]["columns"])


def columns_of_where(schema, query, inner):
    """Return the columns of ("where", q, condition)."""
    _, _, condition = query
    if not fits(condition, inner[0]):
        raise QueryError("condition")
    return inner[0]


def columns_of_select(schema, query, inner):
    """Return the columns of ("select", q, names)."""
    _, _, names = query
    if len(names) == 0 or has_twice(names):
        raise QueryError("column")
    return [column_named(inner[0], name) for name in names]


def columns_of_rename(schema, query, inner):
    """Return the columns of ("rename", q, old, new)."""
    _, _, old, new = query
    column_named(inner[0], old)
    if not is_name(new):
        raise QueryError("name")
    if new in names_of(inner[0]):
        raise QueryError("taken")
    return [(new if name == old else name, kind, nullable) for name, kind, nullable in inner[0]]


def columns_of_join(schema, query, inner):
    """Return the columns of ("join", q1, q2, c1, c2)."""
    _, _, _, first, second = query
    _, first_kind, _ = column_named(inner[0], first)
    _, second_kind, _ = column_named(inner[1], second)
    if first_kind != second_kind:
        raise QueryError("kind")
    joined = inner[0] + inner[1]
    if has_twice(names_of(joined)):
        raise QueryError("taken")
    return joined


def refuse_other_kinds(inner):
    """Raise QueryError if two queries differ in the number of columns or in the kind of some column."""
    first, second = inner
    if [kind for _, kind, _ in first] != [kind for _, kind, _ in second]:
        raise QueryError("kind")


def columns_of_append(schema, query, inner):
    """Return the columns of ("append", q1, q2)."""
    refuse_other_kinds(inner)
    return [(name, kind, nullable or other[2]) for (name, kind, nullable), other in zip(inner[0], inner[1])]


def columns_of_minus(schema, query, inner):
    """Return the columns of ("minus", q1, q2)."""
    refuse_other_kinds(inner)
    return inner[0]


def same_columns(schema, query, inner):
    """Return the columns of ("distinct", q) and ("limit", q, count)."""
    return inner[0]


def columns_of_order(schema, query, inner):
    """Return the columns of ("order", q, terms)."""
    _, _, terms = query
    if len(terms) == 0:
        raise QueryError("column")
    for name, _ in terms:
        column_named(inner[0], name)
    return inner[0]


def sum_column(columns, item):
    """Return the column that an item of the sums of a group gives. Raise QueryError."""
    function, column, name = item
    if function in ("count", "sum"):
        return (name, "int", False)
    return (name, column_named(columns, column)[1], True)


def columns_of_group(schema, query, inner):
    """Return the columns of ("group", q, names, sums)."""
    _, _, names, sums = query
    if has_twice(names) or len(names) + len(sums) == 0:
        raise QueryError("column")
    kept = [column_named(inner[0], name) for name in names]
    summed = [column_named(inner[0], column) for _, column, _ in sums]
    for item, column in zip(sums, summed):
        if item[0] == "sum" and column[1] != "int":
            raise QueryError("kind")
    new_names = [name for _, _, name in sums]
    if not all([is_name(name) for name in new_names]):
        raise QueryError("name")
    if has_twice(list(names) + new_names):
        raise QueryError("taken")
    return kept + [sum_column(inner[0], item) for item in sums]


COLUMNS = {
    "table": columns_of_table,
    "where": columns_of_where,
    "select": columns_of_select,
    "rename": columns_of_rename,
    "join": columns_of_join,
    "append": columns_of_append,
    "minus": columns_of_minus,
    "distinct": same_columns,
    "order": columns_of_order,
    "limit": same_columns,
    "group": columns_of_group,
}


def inner_queries(query):
    """Return the list of the queries that stand in the query, which are at most two."""
    if query[0] == "table":
        return []
    if query[0] in ("join", "append", "minus"):
        return [query[1], query[2]]
    return [query[1]]


def columns_over(schema, query, inner):
    """Return the columns of the query, when those of its inner queries are known, or raise QueryError."""
    columns_of = COLUMNS[query[0]]
    return columns_of(schema, query, inner)


def query_columns(schema, query):
    """Return the list of the columns of the answer of the query, or raise QueryError."""
    return columns_over(schema, query, [query_columns(schema, part) for part in inner_queries(query)])
