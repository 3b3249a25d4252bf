"""Random queries, and a slow answer to each that is written straight from point 52."""

import re

from tests.support import only

TABLES = ("person", "pet", "bare", "nowhere")
NAMES = ("id", "name", "age", "tag", "owner", "only", "x", "y", "z", "X")
TERMS = (True, False)
FORMS = ("where", "select", "rename", "join", "join", "append", "minus", "distinct", "order", "limit", "group")
FUNCTIONS = ("count", "sum", "least", "greatest")


class Refused(Exception):
    """A query has this code of QueryError."""


def need(holds, code):
    if not holds:
        raise Refused(code)


def one(columns, name):
    """Return the place of a column, or -1."""
    return [column[0] for column in columns].index(name) if name in [column[0] for column in columns] else -1


def clause_holds(columns, row, clause):
    value = row[one(columns, clause[0])]
    if clause[1] == "null":
        return value is None
    if clause[1] == "given":
        return value is not None
    return value is not None and {
        "=": lambda a, b: a == b, "!=": lambda a, b: a != b, "<": lambda a, b: a < b, "<=": lambda a, b: a <= b,
        ">": lambda a, b: a > b, ">=": lambda a, b: a >= b,
    }[clause[1]](value, clause[2])


def clause_fits(columns, clause):
    place = one(columns, clause[0])
    kinds = {"int": int, "text": str}
    return place >= 0 and (clause[2] is None or type(clause[2]) is kinds[columns[place][1]])


def comes_first(columns, terms, row, other):
    """Tell whether a row stands ahead of another one in this order."""
    for name, up in terms:
        a, b = row[one(columns, name)], other[one(columns, name)]
        if a != b:
            return (a is None or (b is not None and a < b)) == up
    return False


def slow(schema, state, query):
    """Return the columns and the rows of the answer of a query, or raise Refused."""
    form = query[0]
    if form == "table":
        need(query[1] in schema, "table")
        table = state[query[1]]
        return schema[query[1]]["columns"], [(key,) + table[key] for key in sorted(table)]
    if form in ("join", "append", "minus"):
        return slow_pair(form, slow(schema, state, query[1]), slow(schema, state, query[2]), query[3:])
    columns, rows = slow(schema, state, query[1])
    if form == "where":
        need(all([clause_fits(columns, clause) for clauses in query[2] for clause in clauses]), "condition")
        return columns, [row for row in rows if any([all([clause_holds(columns, row, clause) for clause in clauses])
                                                     for clauses in query[2]])]
    if form == "select":
        places = [one(columns, name) for name in query[2]]
        need(places and len(set(query[2])) == len(places) and min(places) >= 0, "column")
        return [columns[place] for place in places], [tuple([row[place] for place in places]) for row in rows]
    if form == "rename":
        need(one(columns, query[2]) >= 0, "column")
        need(re.fullmatch("[a-z][a-z0-9_]{0,19}", query[3]), "name")
        need(one(columns, query[3]) < 0, "taken")
        return [(query[3],) + column[1:] if column[0] == query[2] else column for column in columns], rows
    if form == "distinct":
        return columns, [row for place, row in enumerate(rows) if row not in rows[:place]]
    if form == "order":
        return columns, slow_order(columns, rows, query[2])
    if form == "limit":
        return columns, [row for place, row in enumerate(rows) if place < query[2]]
    return slow_group(columns, rows, query[2], query[3])


def slow_pair(form, first, second, more):
    (columns, rows), (others, other_rows) = first, second
    if form == "join":
        here, there = one(columns, more[0]), one(others, more[1])
        need(here >= 0 and there >= 0, "column")
        need(columns[here][1] == others[there][1], "kind")
        need(not {column[0] for column in columns} & {column[0] for column in others}, "taken")
        return columns + others, [row + other for row in rows for other in other_rows
                                  if row[here] == other[there] and row[here] is not None]
    need(len(columns) == len(others), "kind")
    need(all([a[1] == b[1] for a, b in zip(columns, others)]), "kind")
    if form == "minus":
        return columns, [row for row in rows if row not in other_rows]
    return [(a[0], a[1], a[2] or b[2]) for a, b in zip(columns, others)], rows + other_rows


def slow_order(columns, rows, terms):
    need(terms and all([one(columns, name) >= 0 for name, _ in terms]), "column")
    found = []
    for row in rows:
        place = len(found)
        while place > 0 and comes_first(columns, terms, row, found[place - 1]):
            place -= 1
        found.insert(place, row)
    return found


def slow_group(columns, rows, names, sums):
    need(len(set(names)) == len(names) and (names or sums), "column")
    need(all([one(columns, name) >= 0 for name in names + tuple([item[1] for item in sums])]), "column")
    need(not any([item[0] == "sum" and columns[one(columns, item[1])][1] == "text" for item in sums]), "kind")
    new = [item[2] for item in sums]
    need(all([re.fullmatch("[a-z][a-z0-9_]{0,19}", name) for name in new]), "name")
    need(len(set(new + list(names))) == len(new + list(names)), "taken")
    keys = [] if names else [()]
    for row in rows:
        key = tuple([row[one(columns, name)] for name in names])
        if key not in keys:
            keys.append(key)
    found = []
    for key in keys:
        members = [row for row in rows if tuple([row[one(columns, name)] for name in names]) == key]
        more = []
        for function, column, _ in sums:
            values = sorted([row[one(columns, column)] for row in members if row[one(columns, column)] is not None])
            more.append({"count": len(values), "sum": sum(values) if function == "sum" else 0,
                         "least": values[0] if values else None, "greatest": values[-1] if values else None}[function])
        found.append(key + tuple(more))
    result = [columns[one(columns, name)] for name in names]
    for function, column, name in sums:
        made = function in ("count", "sum")
        result.append((name, "int", False) if made else (name, columns[one(columns, column)][1], True))
    return result, found


def any_name(source, columns):
    """Return mostly the name of one of the columns."""
    return source.choice([column[0] for column in columns]) if source.randrange(12) else source.choice(NAMES)


def some_names(source, columns, least):
    names = [column[0] for column in columns]
    found = source.sample(names, source.randrange(least, min(3, len(names)) + 1))
    return tuple(found + [source.choice(NAMES)] if source.randrange(12) == 0 else found)


def any_condition(source, columns):
    name = any_name(source, columns)
    operator = source.choice(("=", "!=", "<", "<=", ">", ">=", "null", "given"))
    kind = dict([column[:2] for column in columns]).get(name, "int")
    operand = source.choice((1, 2, 3, 7, 8)) if kind == "int" else source.choice(("", "a", "b"))
    return only(name, operator, None if operator in ("null", "given") else operand)


def any_join(source, schema, deep, inner, columns):
    """Return any join of the inner query, which has these columns."""
    first = any_name(source, columns)
    if source.randrange(3) == 0:
        return ("join", inner, any_query(source, schema, deep - 1), first, source.choice(NAMES[:6]))
    kind = dict([column[:2] for column in columns]).get(first, "int")
    table, column, other = source.choice((
        ("person", "id", "name"), ("person", "age", "name"), ("pet", "owner", "tag"), ("bare", "only", "only")))
    second = column if kind == "int" else other
    free = source.choice(("x", "y", "z"))
    return ("join", inner, ("rename", ("select", ("table", table), (second,)), second, free), first, free)


def any_query(source, schema, deep):
    """Return any query that is nested at most so deep; mostly it has an answer."""
    if deep == 0 or source.randrange(6) == 0:
        return ("table", source.choice(TABLES[:3]) if source.randrange(30) else TABLES[3])
    inner = any_query(source, schema, deep - 1)
    try:
        columns = slow(schema, {table: {} for table in schema}, inner)[0]
    except Refused:
        return ("distinct", inner)
    form = source.choice(FORMS)
    if form == "join":
        return any_join(source, schema, deep, inner, columns)
    if form in ("append", "minus"):
        return (form, inner, source.choice([
            ("where", inner, any_condition(source, columns)), ("limit", inner, 1),
            ("order", inner, ((columns[0][0], True),)), any_query(source, schema, deep - 1)]))
    sums = tuple([(source.choice(FUNCTIONS), any_name(source, columns), source.choice(NAMES))
                  for _ in range(source.randrange(3))])
    return (form, inner) + {
        "where": lambda: (any_condition(source, columns),),
        "select": lambda: (some_names(source, columns, 1),),
        "rename": lambda: (any_name(source, columns), source.choice(NAMES)),
        "distinct": lambda: (),
        "order": lambda: (tuple([(name, source.choice(TERMS)) for name in some_names(source, columns, 1)]),),
        "limit": lambda: (source.choice((0, 1, 2, 3, 50)),),
        "group": lambda: (some_names(source, columns, 0), sums),
    }[form]()


def any_state(source):
    """Return any small state of the schema of the tests of queries."""
    return {
        "person": {key: (source.choice((None, "", "a", "b")), source.choice((1, 2, 7)))
                   for key in source.sample(range(1, 9), source.randrange(6))},
        "pet": {tag: (source.choice((None, 1, 2, 3)),)
                for tag in source.sample(("", "a", "b", "c"), source.randrange(5))},
        "bare": {key: () for key in source.sample(range(1, 9), source.randrange(4))},
    }
