"""The plain meaning of a store: a state for each version."""

from lenstree.edges import carry_soundly, copy_complements, edges_of, hang, spread
from lenstree.edits import apply_write
from lenstree.errors import VersionError
from lenstree.scripts import empty_complements
from lenstree.states import copy_state, empty_state
from lenstree.tree import NOWHERE, Tree


class Model:
    """A store that keeps the state of each node and the complements of each edge."""

    def __init__(self, schema):
        self.tree = Tree(schema)
        self._states = {0: empty_state(schema)}
        self._complements = {}

    def _state(self, version):
        """Return the state of a live version, or raise VersionError."""
        if not self.tree.is_live(version):
            raise VersionError("missing")
        return self._states[version]

    def _keep(self, tree, states, complements):
        """Take over a tree, and of these states and complements those of its nodes and edges."""
        self.tree = tree
        self._states = {node: states[node] for node in tree.nodes()}
        self._complements = edges_of(tree, complements)

    def show(self, version):
        """Return the state of a live version. Raise VersionError."""
        return copy_state(self._state(version))

    def complements(self, node):
        """Return the list of the complements of the edge above a node, [] for the root."""
        if self.tree.parent(node) == NOWHERE:
            return []
        return copy_complements(self._complements[node])

    def evolve(self, parent, script):
        """Add a version and return its number. Raise VersionError, StepError or RejectedError."""
        # Changes are made to a copy, so that nothing has changed if an error is raised.
        tree = self.tree.copy_tree()
        number = tree.add(parent, script)
        complements = {number: empty_complements(script)}
        state, complements[number] = carry_soundly(tree, complements, parent, number, self._states[parent])
        self._keep(tree, {**self._states, number: state}, {**self._complements, **complements})
        return number

    def write(self, version, edits):
        """Write through a version. Raise VersionError, EditError or RejectedError."""
        before = self._state(version)
        after = apply_write(self.tree.schema(version), before, edits)
        states, complements = spread(self.tree, self._complements, version, after)
        self._keep(self.tree, states, complements)

    def prune(self, version):
        """Prune a version. Raise VersionError."""
        tree = self.tree.copy_tree()
        tree.prune(version)
        self._keep(tree, self._states, self._complements)

    def rebase(self, version, parent):
        """Hang a version under another one. Raise VersionError, StepError or RejectedError."""
        tree = self.tree.copy_tree()
        tree.rebase(version, parent)
        states, complements = hang(tree, self._complements, version, self._states[parent])
        self._keep(tree, {**self._states, **states}, complements)
