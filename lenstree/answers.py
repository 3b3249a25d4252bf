"""The answers of queries.

The functions of one form take the query and, for each of its inner queries, the pair of the names of its columns and
the list of its rows. They return the list of the rows of the answer.
"""

from lenstree.conditions import holds
from lenstree.queries import columns_over, inner_queries, names_of
from lenstree.states import rows


def rows_where(query, inner):
    """Return the rows of ("where", q, condition)."""
    names, listed = inner[0]
    return [row for row in listed if holds(query[2], names, row)]


def rows_selected(query, inner):
    """Return the rows of ("select", q, names)."""
    names, listed = inner[0]
    places = [names.index(name) for name in query[2]]
    return [tuple([row[place] for place in places]) for row in listed]


def same_rows(query, inner):
    """Return the rows of ("rename", q, old, new)."""
    _, listed = inner[0]
    return listed


def rows_by_value(listed, place):
    """Return the dict from the values at a place that are not null to the rows that have them, in their order."""
    found = {}
    for row in listed:
        if row[place] is not None:
            found.setdefault(row[place], []).append(row)
    return found


def rows_joined(query, inner):
    """Return the rows of ("join", q1, q2, c1, c2)."""
    _, _, _, first, second = query
    names, listed = inner[0]
    other_names, others = inner[1]
    place = names.index(first)
    partners = rows_by_value(others, other_names.index(second))
    return [row + other for row in listed for other in partners.get(row[place], [])]


def rows_appended(query, inner):
    """Return the rows of ("append", q1, q2)."""
    return inner[0][1] + inner[1][1]


def rows_left_over(query, inner):
    """Return the rows of ("minus", q1, q2)."""
    taken = {row: True for row in inner[1][1]}
    return [row for row in inner[0][1] if row not in taken]


def distinct_rows(query, inner):
    """Return the rows of ("distinct", q)."""
    # A dict keeps each key where it was added first.
    return list({row: True for row in inner[0][1]})


def rows_sorted(listed, place, up):
    """Return the rows sorted by the value at a place; rows that are equal there keep their order."""
    nulls = [row for row in listed if row[place] is None]
    groups = rows_by_value(listed, place)
    if up:
        return nulls + [row for value in sorted(groups) for row in groups[value]]
    return [row for value in sorted(groups, reverse=True) for row in groups[value]] + nulls


def rows_in_order(query, inner):
    """Return the rows of ("order", q, terms)."""
    names, listed = inner[0]
    # The first term counts most, so it sorts last.
    for name, up in reversed(query[2]):
        listed = rows_sorted(listed, names.index(name), up)
    return listed


def first_rows(query, inner):
    """Return the rows of ("limit", q, count)."""
    return inner[0][1][:query[2]]


def summed_up(function, values):
    """Return what one of the functions of a group makes of the values that are not null."""
    if function == "count":
        return len(values)
    if function == "sum":
        return sum(values)
    if function == "least":
        return min(values, default=None)
    return max(values, default=None)


def given_values(listed, place):
    """Return the values of the rows at a place that are not null."""
    return [row[place] for row in listed if row[place] is not None]


def rows_grouped(query, inner):
    """Return the rows of ("group", q, names, sums)."""
    _, _, chosen, sums = query
    names, listed = inner[0]
    places = [names.index(name) for name in chosen]
    # Without names there is one group, even if there are no rows.
    groups = {} if len(chosen) > 0 else {(): []}
    for row in listed:
        groups.setdefault(tuple([row[place] for place in places]), []).append(row)
    goals = [(function, names.index(column)) for function, column, _ in sums]
    return [
        key + tuple([summed_up(function, given_values(members, place)) for function, place in goals])
        for key, members in groups.items()
    ]


ROWS = {
    "where": rows_where,
    "select": rows_selected,
    "rename": same_rows,
    "join": rows_joined,
    "append": rows_appended,
    "minus": rows_left_over,
    "distinct": distinct_rows,
    "order": rows_in_order,
    "limit": first_rows,
    "group": rows_grouped,
}


def solved(schema, state, query):
    """Return the list of the columns and the list of the rows of the answer, or raise QueryError."""
    solutions = [solved(schema, state, part) for part in inner_queries(query)]
    columns = columns_over(schema, query, [found for found, _ in solutions])
    if query[0] == "table":
        return columns, rows(state, query[1])
    rows_of = ROWS[query[0]]
    return columns, rows_of(query, [(names_of(found), listed) for found, listed in solutions])


def answer(schema, state, query):
    """Return the answer of the query on the state of the schema, a list of rows, or raise QueryError."""
    _, listed = solved(schema, state, query)
    return listed
