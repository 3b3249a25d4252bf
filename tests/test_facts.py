"""Point 44: the facts that hold after each call of a store, on many small stores from fixed seeds."""

import copy
import random
import unittest

from lenstree.edits import apply_write
from lenstree.errors import EditError, RejectedError, StepError, StoreError, VersionError
from lenstree.model import Model
from lenstree.scripts import script_left, script_right
from lenstree.states import first_fault, fits_schema
from lenstree.steps import target_schema
from tests.store_case import view
from tests.store_runs import KINDS, START, any_call, any_edits, any_row, any_script, filled

GROUPS = ("extract", "inline", "add_reference", "drop_reference")
COLUMN_KINDS = KINDS[:8]
KEEPING = [kind for kind in KINDS if kind not in GROUPS]


def over(store, near, far, state):
    """Carry a state over an edge: return the state of the far node and the new complements."""
    tree = store.tree
    if tree.parent(far) == near:
        return script_right(tree.schema(near), tree.script(far), state, store.complements(far))
    return script_left(tree.schema(far), tree.script(near), state, store.complements(near))


def states_of(store):
    """Return the states of all nodes, those of the pruned ones carried from a live one."""
    start = store.tree.numbers()[0]
    states = {start: store.show(start)}
    for near, far in store.tree.walk(start):
        states[far] = over(store, near, far, states[near])[0]
    return states


def columns_at(schema):
    """Return the pairs (table, column) of a schema."""
    return [(table, column[0]) for table in schema for column in schema[table]["columns"]]


def links_of(step, schema):
    """Return pairs of (table, column) on the left and on the right that a step links."""
    kind, table = step[:2]
    links = [(pair, pair) for pair in columns_at(schema)]
    if kind == "rename_table":
        return [((here, name), (step[2] if here == table else here, name)) for (here, name), _ in links]
    if kind == "rename_column":
        return [link for link in links if link[0] != (table, step[2])] + [((table, step[2]), (table, step[3]))]
    if kind == "drop_column":
        return [link for link in links if link[0] != (table, step[2])]
    if kind == "split_column":
        links = [link for link in links if link[0] != (table, step[2])]
        return links + [((table, step[2]), (table, name)) for name in step[3:5]]
    if kind == "merge_columns":
        links = [link for link in links if link[0] not in ((table, step[2]), (table, step[3]))]
        return links + [((table, name), (table, step[4])) for name in step[2:4]]
    return links


def linked(store, version, columns):
    """Return the set of (node, table, column) that are linked with these pairs (table, column) of the version."""
    tree = store.tree
    links = []
    for node in tree.nodes():
        schema = tree.schema(tree.parent(node)) if tree.parent(node) != -1 else None
        script = tree.script(node)
        for place, step in enumerate(script):
            before = (node, place) if place > 0 else (tree.parent(node), "end")
            after = (node, place + 1) if place + 1 < len(script) else (node, "end")
            links += [((before, one), (after, two)) for one, two in links_of(step, schema)]
            schema = target_schema(schema, step)
        if script == [] and schema is not None:
            links += [(((tree.parent(node), "end"), pair), ((node, "end"), pair)) for pair in columns_at(schema)]
    reached = {((version, "end"), pair) for pair in columns}
    grows = True
    while grows:
        more = {two for one, two in links if one in reached} | {one for one, two in links if two in reached}
        grows = not more <= reached
        reached |= more
    return {(place[0],) + pair for place, pair in reached if place[1] == "end"}


class FactsCase(unittest.TestCase):
    def made(self, schema):
        return Model(schema)

    def holds_together(self, store):
        """Each state is sound; carrying over each edge gives the other state and leaves the complements."""
        tree = store.tree
        states = states_of(store)
        for node in tree.nodes():
            self.assertTrue(fits_schema(tree.schema(node), states[node]))
            self.assertIsNone(first_fault(tree.schema(node), states[node]))
            if tree.is_live(node):
                self.assertEqual(store.show(node), states[node])
            parent = tree.parent(node)
            if parent != -1:
                complements = store.complements(node)
                self.assertEqual(over(store, parent, node, states[parent]), (states[node], complements))
                self.assertEqual(over(store, node, parent, states[node]), (states[parent], complements))

    def call(self, store, *call):
        """Make a call; return True, or False if it raised an error of the program, which must not change anything."""
        before = copy.deepcopy(view(store))
        held = copy.deepcopy(call)
        try:
            getattr(store, call[0])(*call[1:])
        except StoreError as error:
            self.assertIn(type(error), (VersionError, StepError, EditError, RejectedError))
            self.assertEqual(view(store), before)
            self.seen(call[0], error)
            done = False
        else:
            self.counts[call[0]] = self.counts.get(call[0], 0) + 1
            done = True
        self.assertEqual(call, held)
        return done

    def seen(self, name, error):
        key = (name, type(error).__name__, getattr(error, "code", ""))
        self.counts[key] = self.counts.get(key, 0) + 1

    def setUp(self):
        self.counts = {}

    def changed_keys(self, before, after):
        return {key for table in before for key in set(before[table]) | set(after[table])
                if before[table].get(key) != after[table].get(key)}


class AnyStoresTest(FactsCase):
    def test_facts_after_each_call(self):
        for seed in range(60):
            source = random.Random(seed)
            store = self.made(START)
            filled(source, store)
            with self.subTest(seed=seed):
                for _ in range(25):
                    call = any_call(source, store)
                    before = states_of(store)
                    if self.call(store, *call):
                        self.holds_together(store)
                        self.after(store, call, before)
        self.was_busy()

    def after(self, store, call, before):
        """See what holds for the kind of the call; `before` has the states of all nodes ahead of it."""
        now = states_of(store)
        if call[0] == "write":
            self.after_write(store, call[1], call[2], before, now)
        elif call[0] == "rebase":
            others = [node for node in now if call[1] not in self.path_up(store.tree, node)]
            self.assertEqual({node: now[node] for node in others}, {node: before[node] for node in others})
        else:
            self.assertEqual({node: now[node] for node in before if node in now},
                             {node: before[node] for node in before if node in now})

    def path_up(self, tree, node):
        """Return the list of the nodes from a node to the root, both included."""
        found = [node]
        while tree.parent(found[-1]) != -1:
            found.append(tree.parent(found[-1]))
        return found

    def after_write(self, store, version, edits, before, now):
        tree = store.tree
        self.assertEqual(now[version], apply_write(tree.schema(version), before[version], edits))
        keys = {edit[2] if edit[0] in ("set", "delete") else edit[2][0] for edit in edits}
        for node in tree.nodes():
            path = tree.path(version, node)
            edges = [two if tree.parent(two) == one else one for one, two in zip(path, path[1:])]
            kinds = {step[0] for edge in edges for step in tree.script(edge)}
            if not kinds & set(GROUPS):
                self.assertLessEqual(self.changed_keys(before[node], now[node]), keys)
        # The same rows again change nothing, at no version.
        shown = now[version]
        rows = [("replace", table, (key,) + rest) for table in shown for key, rest in shown[table].items()]
        again = copy.deepcopy(view(store))
        store.write(version, rows[:24])
        self.assertEqual(view(store), again)

    def was_busy(self):
        """See that the calls were such as can show something."""
        for name in ("evolve", "write", "prune", "rebase"):
            self.assertGreater(self.counts[name], 20, self.counts)
        for code in ("hidden", "check", "unique"):
            self.assertIn(("write", "RejectedError", code), self.counts)
        self.assertIn(("rebase", "VersionError", "complement"), self.counts)
        self.assertIn(("rebase", "StepError", "missing"), self.counts)


class LinkedColumnsTest(FactsCase):
    def test_only_linked_columns_change(self):
        """Scripts of steps on columns and of rename_table, and writes of "set" alone."""
        changes = 0
        for seed in range(60):
            source = random.Random(1000 + seed)
            store = self.made(START)
            filled(source, store)
            for _ in range(4):
                version = source.choice(store.tree.numbers())
                store.evolve(version, any_script(source, store.tree.schema(version), COLUMN_KINDS))
            with self.subTest(seed=seed):
                for _ in range(12):
                    changes += self.write(store, source)
        self.assertGreater(changes, 100)

    def write(self, store, source):
        tree = store.tree
        version = source.choice(tree.numbers())
        edits = any_edits(source, tree.schema(version), store.show(version), ("set",))
        before = states_of(store)
        if not self.call(store, "write", version, edits) or not all([edit[0] == "set" for edit in edits]):
            return 0
        now = states_of(store)
        allowed = linked(store, version, {(edit[1], edit[3]) for edit in edits})
        changes = 0
        for node in tree.nodes():
            for table, description in tree.schema(node).items():
                self.assertEqual(set(before[node][table]), set(now[node][table]))
                names = [column[0] for column in description["columns"]][1:]
                for key, rest in now[node][table].items():
                    for name, old, new in zip(names, before[node][table][key], rest):
                        if old != new:
                            self.assertIn((node, table, name), allowed)
                            changes += node != version
        return changes


class HiddenTest(FactsCase):
    def hidden_keys(self, store, step, complement):
        """Return the version that does not show rows, and the pairs of a table and a key that it does not show."""
        kind = step[0]
        bound = 1 if kind in ("add_check", "add_unique", "add_reference") else 0
        if "hidden" in complement:
            return bound, [(step[1], key) for key in complement["hidden"]]
        if "extra" in complement:
            return (0 if kind == "decompose" else 1), [(step[1], key) for key in complement["extra"]]
        return 0, []

    def test_hidden_rows_are_not_replaced(self):
        """A row that a version does not show because of point 26, 30 or 31 cannot be inserted there."""
        kinds = ("decompose", "recompose", "add_check", "add_unique", "add_reference", "drop_check", "drop_unique",
                 "drop_reference")
        tried = {}
        for seed in range(300):
            source = random.Random(2000 + seed)
            store = self.made(START)
            filled(source, store)
            script = any_script(source, START, kinds, 1)
            if script == [] or not self.call(store, "evolve", 0, script):
                continue
            # Below a constraint that is added it may be dropped again.
            drop = (script[0][0].replace("add_", "drop_"),) + script[0][1:]
            if script[0][0].startswith("add_"):
                store.evolve(1, [drop])
            for _ in range(8):
                version = source.choice(store.tree.numbers())
                self.call(store, "write", version,
                          any_edits(source, store.tree.schema(version), store.show(version)))
            for node in store.tree.nodes()[1:]:
                step = store.tree.script(node)[0]
                bound, pairs = self.hidden_keys(store, step, store.complements(node)[0])
                version = node if bound else store.tree.parent(node)
                for table, key in pairs:
                    self.refuses(store, source, version, table, key)
                    tried[step[0]] = tried.get(step[0], 0) + 1
        for kind in ("decompose", "recompose", "add_check", "add_unique", "add_reference", "drop_check"):
            self.assertGreater(tried.get(kind, 0), 0, (kind, tried))

    def refuses(self, store, source, version, table, key):
        row = any_row(source, store.tree.schema(version)[table]["columns"], key)
        before = copy.deepcopy(view(store))
        after = apply_write(store.tree.schema(version), store.show(version), [("insert", table, row)])
        with self.assertRaises(RejectedError) as caught:
            store.write(version, [("insert", table, row)])
        self.assertEqual(view(store), before)
        if first_fault(store.tree.schema(version), after) is None:
            self.assertEqual((caught.exception.code, caught.exception.key), ("hidden", key))
        else:
            self.assertEqual(caught.exception.version, version)


if __name__ == "__main__":
    unittest.main()
