"""Moves of the home of a store: which rows of the goal's state have been copied, and which come next.

A pair is a tuple of a table and a key; a mark is the pair of the row that was copied last, or None.
"""

from lenstree.states import copy_state


def is_ahead(pair, mark):
    """Tell whether the row with this pair is still to be copied."""
    return mark is None or pair > mark


def pairs_ahead(state, mark):
    """Return the list of the pairs of the rows that are still to be copied, ascending."""
    return sorted([(table, key) for table in state for key in state[table] if is_ahead((table, key), mark)])


def copied_rows(state, mark):
    """Return the state with only those rows that have been copied."""
    return {
        table: {key: rest for key, rest in state[table].items() if not is_ahead((table, key), mark)}
        for table in state
    }


def with_pairs(copy, state, pairs):
    """Return the copy with those rows of the state that have one of the pairs."""
    result = copy_state(copy)
    for table, key in pairs:
        result[table][key] = state[table][key]
    return result
