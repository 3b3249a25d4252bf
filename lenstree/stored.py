"""The stored form of a store: the state of one version, its home, and the complements of all edges."""

from lenstree.edges import carry_soundly, copy_complements, edges_of, hang, spread, state_along
from lenstree.edits import apply_write
from lenstree.errors import VersionError
from lenstree.moves import copied_rows, pairs_ahead, with_pairs
from lenstree.scripts import empty_complements
from lenstree.states import copy_state, empty_state
from lenstree.tree import NOWHERE, Tree


class Stored:
    """A store that keeps the state of its home alone; those of other versions are carried from there."""

    def __init__(self, schema):
        self.tree = Tree(schema)
        self._home = 0
        self._kept = empty_state(schema)
        self._complements = {}
        # None, or the tuple (goal, mark, copy) of the move that is going on.
        self._move = None

    def _state(self, version):
        """Return the state of a live version, or raise VersionError."""
        if not self.tree.is_live(version):
            raise VersionError("missing")
        return state_along(self.tree, self._complements, self.tree.path(self._home, version), self._kept)

    def _keep(self, tree, complements):
        """Take over a tree, and of these complements those of its edges."""
        self.tree = tree
        self._complements = edges_of(tree, complements)

    def take_parts(self, tree, home, kept, complements, move):
        """Become a store with copies of this tree, home, kept state, dict of complements and view of a move."""
        self._keep(tree.copy_tree(), {node: copy_complements(complements[node]) for node in complements})
        self._home = home
        self._kept = copy_state(kept)
        self._move = None
        if move is not None:
            goal, mark, copy = move
            self._move = (goal, mark, copy_state(copy))

    def show(self, version):
        """Return the state of a live version. Raise VersionError."""
        return copy_state(self._state(version))

    def complements(self, node):
        """Return the list of the complements of the edge above a node, [] for the root."""
        if self.tree.parent(node) == NOWHERE:
            return []
        return copy_complements(self._complements[node])

    def evolve(self, parent, script):
        """Add a version and return its number. Raise VersionError, StepError or RejectedError."""
        # Changes are made to a copy, so that nothing has changed if an error is raised.
        tree = self.tree.copy_tree()
        number = tree.add(parent, script)
        complements = {number: empty_complements(script)}
        _, complements[number] = carry_soundly(tree, complements, parent, number, self._state(parent))
        self._keep(tree, {**self._complements, **complements})
        return number

    def write(self, version, edits):
        """Write through a version. Raise VersionError, EditError or RejectedError."""
        before = self._state(version)
        after = apply_write(self.tree.schema(version), before, edits)
        states, complements = spread(self.tree, self._complements, version, after)
        self._complements = complements
        self._kept = states[self._home]
        if self._move is not None:
            goal, mark, _ = self._move
            self._move = (goal, mark, copied_rows(states[goal], mark))

    def prune(self, version):
        """Prune a version. Raise VersionError."""
        tree = self.tree.copy_tree()
        tree.prune(version)
        if version == self._home:
            raise VersionError("home")
        if self._move is not None and version == self._move[0]:
            raise VersionError("moving")
        self._keep(tree, self._complements)

    def rebase(self, version, parent):
        """Hang a version under another one. Raise VersionError, StepError or RejectedError."""
        self.tree.refuse_rebase(version, parent)
        if self.tree.is_below(self._home, version):
            raise VersionError("home")
        if self._move is not None:
            raise VersionError("moving")
        tree = self.tree.copy_tree()
        tree.rebase(version, parent)
        _, complements = hang(tree, self._complements, version, self._state(parent))
        self._keep(tree, complements)

    def home(self):
        """Return the number of the home."""
        return self._home

    def kept(self):
        """Return the state of the home."""
        return copy_state(self._kept)

    def begin_move(self, version):
        """Begin a move of the home to a version. Raise VersionError."""
        if not self.tree.is_live(version):
            raise VersionError("missing")
        if version == self._home:
            raise VersionError("home")
        if self._move is not None:
            raise VersionError("moving")
        self._move = (version, None, empty_state(self.tree.schema(version)))

    def _moving(self):
        """Return the tuple of the move that is going on, or raise VersionError."""
        if self._move is None:
            raise VersionError("moving")
        return self._move

    def advance(self, count):
        """Copy the next rows of the goal, at most `count`, and tell whether the move has ended. Raise VersionError."""
        goal, mark, copy = self._moving()
        state = self._state(goal)
        pairs = pairs_ahead(state, mark)[:count]
        copy = with_pairs(copy, state, pairs)
        if len(pairs) < count:
            self._home = goal
            self._kept = copy
            self._move = None
            return True
        self._move = (goal, pairs[-1], copy)
        return False

    def stop_move(self):
        """Drop the move that is going on. Raise VersionError."""
        self._moving()
        self._move = None

    def move_view(self):
        """Return None, or the goal, the mark and the copy of the move that is going on."""
        if self._move is None:
            return None
        goal, mark, copy = self._move
        return (goal, mark, copy_state(copy))

    def image(self):
        """Return all that the store keeps, as a tuple of plain data."""
        nodes = [node for node in self.tree.nodes() if self.tree.parent(node) != NOWHERE]
        complements = [(node, self.complements(node)) for node in nodes]
        return (self.tree.outline(), self._home, self.kept(), complements, self.move_view())
