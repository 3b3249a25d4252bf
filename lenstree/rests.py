"""Rests: how the values of a row go from the columns of one table description to those of another one."""

from lenstree.schema import column_names


def value_at(description, column, rest):
    """Return the value of a rest in a column other than the key column."""
    return rest[column_names(description).index(column) - 1]


def values_at(description, columns, rest):
    """Return the tuple of the values of a rest in these columns, none of which is the key column."""
    return tuple([value_at(description, column, rest) for column in columns])


def moved_rest(here, there, rest, news):
    """Return the rest that a row with this rest of `here` has in the columns of `there`.

    The dict `news` has the values in those columns of `there` that `here` does not have in the same way.
    """
    values = dict(zip(column_names(here)[1:], rest))
    values.update(news)
    return tuple([values[name] for name in column_names(there)[1:]])
