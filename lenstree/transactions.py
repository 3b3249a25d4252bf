"""Transactions over a store: each sees the state of its version as it was when it began, with its own edits."""

from lenstree.edits import MOST_EDITS, apply_write, fits_key, touched
from lenstree.errors import EditError, TransactionError
from lenstree.states import rows


class Transaction:
    """An open transaction: its version, what it has seen of it, its edits and what it relies on."""

    def __init__(self, version, plan, state):
        self.version = version
        # The schema and the state of the version when the transaction began. No state here is ever changed in place.
        self.plan = plan
        self.snapshot = state
        # The snapshot with the edits.
        self.current = state
        self.edits = []
        # The pairs (table, key) and the tables on which the transaction relies, as the keys of dicts.
        self.pairs = {}
        self.tables = {}

    def refuse_table(self, table):
        """Raise EditError if the version had no such table."""
        if table not in self.plan:
            raise EditError("table", 0)

    def row(self, table, key):
        """Return the row with this key, or None. Raise EditError."""
        self.refuse_table(table)
        if not fits_key(self.plan[table], key):
            raise EditError("key", 0)
        self.pairs[(table, key)] = True
        if key not in self.current[table]:
            return None
        return (key,) + self.current[table][key]

    def table_rows(self, table):
        """Return the list of the rows of a table, ascending by key. Raise EditError."""
        self.refuse_table(table)
        self.tables[table] = True
        return rows(self.current, table)

    def change(self, edits):
        """Apply more edits. Raise EditError."""
        if len(self.edits) + len(edits) > MOST_EDITS:
            raise EditError("long", MOST_EDITS)
        self.current = apply_write(self.plan, self.current, edits)
        self.edits = self.edits + edits
        for pair in touched(edits):
            self.pairs[pair] = True

    def relies_on_change(self, state):
        """Tell whether the state differs from the snapshot in something on which the transaction relies."""
        if any([self.snapshot[table] != state[table] for table in self.tables]):
            return True
        return any([self.snapshot[table].get(key) != state[table].get(key) for table, key in self.pairs])


class Desk:
    """The open transactions over one store."""

    def __init__(self, store):
        self._store = store
        self._upcoming = 0
        self._transactions = {}

    def _transaction(self, number):
        """Return the open transaction with this number, or raise TransactionError."""
        if number not in self._transactions:
            raise TransactionError("closed")
        return self._transactions[number]

    def begin(self, version):
        """Begin a transaction and return its number. Raise VersionError."""
        state = self._store.show(version)
        number = self._upcoming
        self._transactions[number] = Transaction(version, self._store.tree.schema(version), state)
        self._upcoming = number + 1
        return number

    def read(self, number, table, key):
        """Return the row with this key, or None. Raise TransactionError or EditError."""
        return self._transaction(number).row(table, key)

    def scan(self, number, table):
        """Return the list of the rows of a table, ascending by key. Raise TransactionError or EditError."""
        return self._transaction(number).table_rows(table)

    def edit(self, number, edits):
        """Apply a list of edits. Raise TransactionError or EditError."""
        self._transaction(number).change(edits)

    def _is_gone(self, transaction):
        """Tell whether the version is not live any more or has another schema now."""
        tree = self._store.tree
        return not tree.is_live(transaction.version) or tree.schema(transaction.version) != transaction.plan

    def commit(self, number):
        """Write the edits of a transaction and end it. Raise TransactionError or RejectedError."""
        transaction = self._transaction(number)
        # It has ended, whatever comes of its edits.
        del self._transactions[number]
        if self._is_gone(transaction):
            raise TransactionError("gone")
        if transaction.relies_on_change(self._store.show(transaction.version)):
            raise TransactionError("conflict")
        if transaction.edits != []:
            self._store.write(transaction.version, transaction.edits)

    def abort(self, number):
        """End a transaction without its edits. Raise TransactionError."""
        self._transaction(number)
        del self._transactions[number]

    def open_numbers(self):
        """Return the list of the numbers of the open transactions, ascending."""
        return sorted(self._transactions)
