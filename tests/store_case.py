"""What the tests of stores share. A store is anything that has the methods of Model."""

import copy
import unittest

from lenstree.errors import EditError, RejectedError, StepError, VersionError
from lenstree.states import first_fault, fits_schema
from tests.support import containers, described, only

KEY = ("id", "int", False)
PERSON = described([KEY, ("name", "text", True), ("age", "int", False)])
SCHEMA = {"person": PERSON}
SPLIT = ("split_column", "person", "name", "first", "last", " ")
GROWN = ("add_check", "person", only("age", ">=", 18))
COLUMNS = [KEY, ("name", "text", True), ("size", "int", False), ("boss", "int", True)]
# The tables a and b have the same columns; b has constraints besides.
MOVING = {
    "a": described(COLUMNS), "b": described(COLUMNS, [only("size", ">", 0)], ["name"], [("boss", "c")]),
    "c": described([KEY]),
}
AL = ("insert", "person", (1, "al b", 30))
BO = ("insert", "person", (2, None, 7))


def view(store):
    """Return all that can be seen of a store."""
    tree = store.tree
    return (
        tree.outline(), [(node, tree.schema(node)) for node in tree.nodes()],
        [(node, store.complements(node)) for node in tree.nodes()],
        [(version, store.show(version)) for version in tree.numbers()],
    )


class StoreCase(unittest.TestCase):
    """The calls of a store: see what they return, that arguments stay, and that nothing changes after an error.

    A class below has the method `made`, which makes a new store of a schema.
    """

    def store(self, *scripts):
        """Return a store with two people whose further versions are all below the root."""
        store = self.made(SCHEMA)
        store.write(0, [AL, BO])
        for script in scripts:
            store.evolve(0, script)
        return store

    def does(self, store, method, *arguments):
        """Call a method that raises nothing; return what it returns."""
        held = copy.deepcopy(arguments)
        result = getattr(store, method)(*arguments)
        self.assertEqual(arguments, held)
        # A later change to an argument, or to what is handed out, has no effect.
        after = copy.deepcopy(view(store))
        for argument in arguments:
            if isinstance(argument, list):
                argument.clear()
        self.assertEqual(view(store), after)
        # Both views are held, so that no identity is given to a second object.
        first, second = view(store), view(store)
        self.assertEqual(containers(first) & containers(second), set())
        self.is_sound(store)
        return result

    def evolves(self, store, parent, script, number):
        self.assertEqual(self.does(store, "evolve", parent, list(script)), number)

    def writes(self, store, version, *edits):
        self.assertIsNone(self.does(store, "write", version, list(edits)))

    def prunes(self, store, version):
        self.assertIsNone(self.does(store, "prune", version))

    def rebases(self, store, version, parent):
        self.assertIsNone(self.does(store, "rebase", version, parent))

    def is_sound(self, store):
        for version in store.tree.numbers():
            state = store.show(version)
            schema = store.tree.schema(version)
            self.assertTrue(fits_schema(schema, state))
            self.assertIsNone(first_fault(schema, state))

    def shows(self, store, expected):
        """See the states of all live versions: `expected` is a dict from numbers to states."""
        self.assertEqual(store.tree.numbers(), sorted(expected))
        for version, state in expected.items():
            self.assertEqual(store.show(version), state, version)

    def fails(self, store, error, fields, method, *arguments):
        """See that a call raises the error with these fields, and changes nothing."""
        before = copy.deepcopy(view(store))
        held = copy.deepcopy(arguments)
        with self.assertRaises(error) as caught:
            getattr(store, method)(*arguments)
        self.assertIs(type(caught.exception), error)
        names = {VersionError: ("code",), StepError: ("code", "index"), EditError: ("code", "index"),
                 RejectedError: ("version", "code", "table", "key")}[error]
        self.assertEqual(tuple([getattr(caught.exception, name) for name in names]), fields)
        self.assertEqual(arguments, held)
        self.assertEqual(view(store), before)

    def no_version(self, store, code, method, *arguments):
        self.fails(store, VersionError, (code,), method, *arguments)

    def no_step(self, store, code, index, method, *arguments):
        self.fails(store, StepError, (code, index), method, *arguments)

    def no_edit(self, store, code, index, version, *edits):
        self.fails(store, EditError, (code, index), "write", version, list(edits))

    def rejects(self, store, fields, method, *arguments):
        self.fails(store, RejectedError, fields, method, *arguments)

    def no_write(self, store, fields, version, *edits):
        self.rejects(store, fields, "write", version, list(edits))
