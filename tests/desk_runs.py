"""Random runs of a desk, with all that its transactions must see and come to by points 48 to 51."""

import copy

from lenstree.edits import apply_write
from lenstree.errors import EditError, StoreError
from lenstree.states import rows
from lenstree.transactions import Desk
from tests.store_case import view
from tests.store_runs import KEYS, KINDS, TABLES, any_call, any_edits, any_script

LIMITS = ("add_check", "add_unique", "add_check", "decompose")


class Told:
    """A transaction as the document tells it: what it sees, on what it relies, and what its calls have come to."""

    def __init__(self, store, version):
        self.version = version
        self.schema = store.tree.schema(version)
        self.snapshot = store.show(version)
        self.now = copy.deepcopy(self.snapshot)
        self.edits = []
        self.pairs = set()
        self.tables = set()
        self.calls = []

    def wanted(self, method, *arguments):
        """Return what a read, a scan or an edit must come to."""
        table = arguments[0]
        if method == "edit":
            return self.wanted_edit(arguments[0])
        if table not in self.schema:
            return failed("EditError", code="table", index=0)
        if method == "scan":
            self.tables.add(table)
            return ("done", rows(self.now, table))
        if type(arguments[1]).__name__[:3] != self.schema[table]["columns"][0][1].replace("text", "str"):
            return failed("EditError", code="key", index=0)
        self.pairs.add(arguments)
        return ("done", dict([(row[0], row) for row in rows(self.now, table)]).get(arguments[1]))

    def wanted_edit(self, edits):
        if len(self.edits) + len(edits) > 24:
            return failed("EditError", code="long", index=24)
        try:
            self.now = apply_write(self.schema, self.now, edits)
        except EditError as error:
            return failed("EditError", code=error.code, index=error.index)
        self.edits += edits
        self.pairs |= {(edit[1], edit[2] if edit[0] in ("set", "delete") else edit[2][0]) for edit in edits}
        return ("done", None)

    def wanted_commit(self, store):
        """Return what the commit must come to, which is done at the store, a copy, if it comes to something."""
        tree = store.tree
        if self.version not in tree.numbers() or tree.schema(self.version) != self.schema:
            return failed("TransactionError", code="gone")
        state = store.show(self.version)
        pairs = [pair for pair in self.pairs if self.snapshot[pair[0]].get(pair[1]) != state[pair[0]].get(pair[1])]
        if pairs or any([self.snapshot[table] != state[table] for table in self.tables]):
            return failed("TransactionError", code="conflict")
        return outcome(store, "write", self.version, self.edits) if self.edits else ("done", None)


def failed(name, **fields):
    return (name, fields)


def outcome(thing, method, *arguments):
    """Call a method; return what it returns, or the name and the fields of the error of the program that it raises."""
    try:
        return ("done", getattr(thing, method)(*arguments))
    except StoreError as error:
        return failed(type(error).__name__, **vars(error))


class DeskRun:
    """A run over one store; `alone` is another one, where each transaction that commits runs at that moment alone."""

    def __init__(self, test, source, store, alone):
        self.test = test
        self.source = source
        self.store = store
        self.alone = alone
        self.desk = Desk(store)
        self.told = {}
        self.begun = 0
        self.counts = {}

    def same(self, method, *arguments):
        """Do a call at both stores and see that it comes to the same."""
        result = outcome(self.store, method, *arguments)
        self.test.assertEqual(outcome(self.alone, method, *arguments), result)

    def go(self, steps):
        for kinds in (LIMITS, KINDS, LIMITS):
            version = self.source.choice(self.store.tree.numbers())
            script = any_script(self.source, self.store.tree.schema(version), kinds, 2)
            self.same("evolve", version, script)
        for _ in range(steps):
            draw = self.source.randrange(20)
            if draw < 3 or not self.told:
                self.begin()
            elif draw < 6:
                self.same(*any_call(self.source, self.store))
            elif draw < 17:
                self.call(self.source.choice(sorted(self.told)))
            else:
                self.end(self.source.choice(sorted(self.told)))
            self.test.assertEqual(self.desk.open_numbers(), sorted(self.told))
        for number in sorted(self.told):
            self.end(number)

    def begin(self):
        version = self.source.choice(self.store.tree.numbers())
        self.test.assertEqual(self.desk.begin(version), self.begun)
        self.told[self.begun] = Told(self.store, version)
        self.begun += 1

    def any_call(self, told):
        table = self.source.choice(sorted(told.schema) + [TABLES[-1]])
        draw = self.source.randrange(6)
        if draw < 2 and told.schema:
            return ("edit", any_edits(self.source, told.schema, told.now))
        if draw < 5:
            return ("read", table, self.source.choice(KEYS["int"] + KEYS["text"]))
        return ("scan", table)

    def call(self, number):
        told = self.told[number]
        call = self.any_call(told)
        before = copy.deepcopy(view(self.store))
        wanted = told.wanted(*copy.deepcopy(call))
        self.test.assertEqual(outcome(self.desk, call[0], number, *call[1:]), wanted)
        told.calls.append((call, wanted))
        self.seen(call[0], wanted)
        self.test.assertEqual(view(self.store), before)

    def seen(self, name, wanted):
        key = (name, wanted[0], wanted[1].get("code") if isinstance(wanted[1], dict) else "")
        self.counts[key] = self.counts.get(key, 0) + 1

    def end(self, number):
        told = self.told.pop(number)
        if self.source.randrange(8) == 0:
            self.test.assertEqual(outcome(self.desk, "abort", number), ("done", None))
            self.test.assertEqual(view(self.store), view(self.alone))
            return
        wanted = told.wanted_commit(copy.deepcopy(self.store))
        self.test.assertEqual(outcome(self.desk, "commit", number), wanted)
        self.seen("commit", wanted)
        if wanted[0] == "done":
            self.again(told)
        self.test.assertEqual(view(self.store), view(self.alone))

    def again(self, told):
        """Run a transaction that has committed once more, alone: its answers are the same."""
        desk = Desk(self.alone)
        number = desk.begin(told.version)
        for call, wanted in told.calls:
            if wanted[0] == "done":
                self.test.assertEqual(outcome(desk, call[0], number, *call[1:]), wanted)
        self.test.assertIsNone(desk.commit(number))
        self.counts["again"] = self.counts.get("again", 0) + (told.edits != [])


def all_counts(runs):
    """Return the sums of what several runs have seen."""
    found = {}
    for run in runs:
        for key, count in run.counts.items():
            found[key] = found.get(key, 0) + count
    return found
