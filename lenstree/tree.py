"""The tree of versions: their numbers, scripts and schemas, without their states."""

from lenstree.errors import VersionError
from lenstree.schema import copy_schema
from lenstree.steps import script_schema

MOST_NODES = 8
# What stands for the parent of the root.
NOWHERE = -1


class Tree:
    """A tree of versions, live or pruned."""

    def __init__(self, schema):
        self._upcoming = 1
        self._parents = {0: NOWHERE}
        self._scripts = {0: []}
        self._schemas = {0: copy_schema(schema)}
        self._flags = {0: True}

    def numbers(self):
        """Return the list of the live versions, ascending."""
        return [number for number in self.nodes() if self._flags[number]]

    def nodes(self):
        """Return the list of all nodes, ascending."""
        return sorted(self._parents)

    def is_live(self, number):
        """Tell whether there is a live version with this number."""
        return self._flags.get(number, False)

    def parent(self, number):
        """Return the parent of a node, or -1 for the root."""
        return self._parents[number]

    def script(self, number):
        """Return the script of a node, [] for the root."""
        return list(self._scripts[number])

    def schema(self, number):
        """Return the schema of a node."""
        return copy_schema(self._schemas[number])

    def children(self, number):
        """Return the list of the children of a node, ascending."""
        return [child for child in self.nodes() if self._parents[child] == number]

    def neighbours(self, number):
        """Return the list of the neighbours of a node, ascending."""
        return [node for node in self.nodes() if self._parents[node] == number or self._parents[number] == node]

    def walk(self, number):
        """Return the walk from a node, a list of pairs (near, far)."""
        order = [number]
        pairs = []
        at = 0
        while at < len(order):
            near = order[at]
            fars = [far for far in self.neighbours(near) if far not in order]
            order.extend(fars)
            pairs.extend([(near, far) for far in fars])
            at += 1
        return pairs

    def walk_below(self, number):
        """Return the list of those pairs of the walk from a node that lead to nodes below it."""
        below = [number]
        pairs = []
        for near, far in self.walk(number):
            if near in below and self._parents[far] == near:
                below.append(far)
                pairs.append((near, far))
        return pairs

    def is_below(self, number, top):
        """Tell whether a node is this other one or below it."""
        return number == top or number in [far for _, far in self.walk_below(top)]

    def path(self, start, end):
        """Return the list of the nodes from one node to another one, both included."""
        nears = {far: near for near, far in self.walk(start)}
        found = [end]
        while found[-1] != start:
            found.append(nears[found[-1]])
        return list(reversed(found))

    def next_number(self):
        """Return the number that the next new version gets."""
        return self._upcoming

    def add(self, parent, script):
        """Add a live version below a live one and return its number. Raise VersionError or StepError."""
        if not self.is_live(parent):
            raise VersionError("missing")
        if len(self._parents) >= MOST_NODES:
            raise VersionError("full")
        schema = script_schema(self._schemas[parent], script)
        number = self._upcoming
        self._upcoming = number + 1
        self._parents[number] = parent
        self._scripts[number] = list(script)
        self._schemas[number] = schema
        self._flags[number] = True
        return number

    def prune(self, number):
        """Prune a version and return the list of the nodes that are removed by it. Raise VersionError."""
        if not self.is_live(number):
            raise VersionError("missing")
        if self.numbers() == [number]:
            raise VersionError("last")
        self._flags[number] = False
        return self._clear_away()

    def _clear_away(self):
        """Remove pruned nodes as long as one has exactly one neighbour, and return them in their order."""
        removed = []
        idle = self._idle_nodes()
        while idle != []:
            self._remove(idle[0])
            removed.append(idle[0])
            idle = self._idle_nodes()
        return removed

    def _idle_nodes(self):
        """Return the list of the pruned nodes that have exactly one neighbour, ascending."""
        return [node for node in self.nodes() if not self._flags[node] and len(self.neighbours(node)) == 1]

    def _remove(self, number):
        """Remove a node that has exactly one neighbour."""
        # If there is a child, the node is the root, and the child takes its place.
        for child in self.children(number):
            self._parents[child] = NOWHERE
            self._scripts[child] = []
        del self._parents[number]
        del self._scripts[number]
        del self._schemas[number]
        del self._flags[number]

    def rebase(self, number, parent):
        """Hang a version under another one and return the list of the nodes that are removed afterwards.

        Raise VersionError or StepError.
        """
        self.refuse_rebase(number, parent)
        schemas = self._schemas_under(number, parent)
        self._parents[number] = parent
        self._schemas.update(schemas)
        return self._clear_away()

    def refuse_rebase(self, number, parent):
        """Raise VersionError if the version cannot be hung under the other one, whatever the scripts are."""
        code = self._rebase_code(number, parent)
        if code != "":
            raise VersionError(code)

    def _rebase_code(self, number, parent):
        """Return the first code that applies to this rebase, or ""."""
        if not self.is_live(number) or not self.is_live(parent):
            return "missing"
        if self._parents[number] == NOWHERE:
            return "root"
        if self.is_below(parent, number):
            return "below"
        if self._parents[number] == parent:
            return "same"
        return ""

    def _schemas_under(self, number, parent):
        """Return the schemas that the version and the nodes below it have under the parent, or raise StepError."""
        found = {number: script_schema(self._schemas[parent], self._scripts[number])}
        for near, far in self.walk_below(number):
            found[far] = script_schema(found[near], self._scripts[far])
        return found

    def copy_tree(self):
        """Return an equal tree that shares nothing with this one."""
        result = Tree({})
        result._upcoming = self._upcoming
        result._parents = dict(self._parents)
        result._scripts = {number: list(self._scripts[number]) for number in self._scripts}
        result._schemas = {number: copy_schema(self._schemas[number]) for number in self._schemas}
        result._flags = dict(self._flags)
        return result

    def take_outline(self, upcoming, lines, schema):
        """Become the tree with this outline: the next number, the lines of all nodes and the schema of the root."""
        self._upcoming = upcoming
        self._parents = {number: parent for number, parent, _, _ in lines}
        self._scripts = {number: list(script) for number, _, _, script in lines}
        self._flags = {number: flag for number, _, flag, _ in lines}
        root = [number for number, parent, _, _ in lines if parent == NOWHERE][0]
        self._schemas = {root: copy_schema(schema)}
        for near, far in self.walk(root):
            self._schemas[far] = script_schema(self._schemas[near], self._scripts[far])

    def outline(self):
        """Return the next number, the list of (number, parent, live, script) of all nodes, and the root's schema."""
        nodes = self.nodes()
        root = [node for node in nodes if self._parents[node] == NOWHERE][0]
        lines = [(node, self._parents[node], self._flags[node], self.script(node)) for node in nodes]
        return (self._upcoming, lines, self.schema(root))
