"""Random calls of engines, and what a Stored that is given the same calls comes to."""

from lenstree.answers import answer
from tests.store_runs import KEYS, START, any_row
from tests.twins import outcome, wild_call

SMALL = {"b": START["b"]}


def any_engine_call(source, store):
    """Return any call that an engine can be given; `store` shows what there is."""
    draw = source.randrange(20)
    numbers = store.tree.numbers() + ([source.randrange(9)] if source.randrange(8) == 0 else [])
    if draw < 10:
        return wild_call(source, store)
    if draw < 13:
        return ("begin_move", source.choice(numbers))
    if draw < 17:
        return ("advance", source.choice((1, 1, 2, 3, 50)))
    if draw == 17:
        return ("stop_move",)
    if draw == 18:
        return ("checkpoint",)
    table = source.choice(sorted(store.tree.schema(store.tree.numbers()[0])) + ["nowhere"])
    return ("query", source.choice(numbers), ("distinct", ("table", table)))


def asked(store, version, query):
    """Answer a query as an engine does, on a store that cannot be asked."""
    state = store.show(version)
    return answer(store.tree.schema(version), state, query)


class Asked:
    """A store that answers queries and takes checkpoints, which do nothing, so that it can stand beside an engine."""

    def __init__(self, store):
        self.store = store

    def __getattr__(self, name):
        if name == "query":
            return lambda version, query: asked(self.store, version, query)
        return (lambda: None) if name == "checkpoint" else getattr(self.store, name)


def plain_outcome(store, call):
    """Do a call at a Stored as if it were an engine."""
    return outcome(Asked(store), call)


def changes(call, result):
    """Tell whether a call of an engine is written to the journal."""
    return result[0] == "done" and call[0] not in ("query", "checkpoint")


def some_rows(source):
    """Return the edits that insert some rows into the table of the schema SMALL."""
    columns = SMALL["b"]["columns"]
    return [("insert", "b", any_row(source, columns, key)) for key in source.sample(KEYS["int"], 2)]
