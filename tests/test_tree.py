"""Points 34 to 38: the tree of versions."""

import copy
import random
import unittest

from lenstree.errors import StepError, VersionError
from lenstree.steps import script_schema
from lenstree.tree import Tree
from tests.support import containers, described, only

KEY = ("id", "int", False)
SCHEMA = {"person": described([KEY, ("name", "text", True)])}
COLUMN = "abcdefghijklmnopqrstuvwxyz"


def adding(letter):
    """Return a script that adds a column with this name."""
    return [("add_column", "person", letter, "int", True, None)]


def view(tree):
    """Return all that can be seen of a tree."""
    nodes = tree.nodes()
    return (
        tree.outline(), nodes, tree.numbers(), tree.next_number(),
        [(node, tree.is_live(node), tree.parent(node), tree.children(node), tree.script(node)) for node in nodes],
        [tree.schema(node) for node in nodes], [tree.walk(node) for node in nodes],
        [tree.path(start, end) for start in nodes for end in nodes],
    )


def grown(parents):
    """Return a tree in which the nodes from 1 on have these parents; the node 1 adds a column `a`, 2 adds `b` .."""
    tree = Tree(SCHEMA)
    for number, parent in enumerate(parents, 1):
        tree.add(parent, adding(COLUMN[number - 1]))
    return tree


class TreeCase(unittest.TestCase):
    def fails(self, tree, code, method, *arguments):
        """See that the call of the method raises VersionError with this code, and changes nothing."""
        before = view(tree)
        held = copy.deepcopy(arguments)
        with self.assertRaises(VersionError) as caught:
            getattr(tree, method)(*arguments)
        self.assertIs(type(caught.exception), VersionError)
        self.assertEqual(caught.exception.code, code)
        self.assertEqual(view(tree), before)
        self.assertEqual(arguments, held)

    def step_fails(self, tree, code, index, method, *arguments):
        before = view(tree)
        held = copy.deepcopy(arguments)
        with self.assertRaises(StepError) as caught:
            getattr(tree, method)(*arguments)
        self.assertEqual((caught.exception.code, caught.exception.index), (code, index))
        self.assertEqual(view(tree), before)
        self.assertEqual(arguments, held)

    def shape(self, tree, expected):
        """See the parents and the liveness of all nodes; pruned nodes stand in brackets: (node, parent, live)."""
        _, lines, _ = tree.outline()
        self.assertEqual([line[:3] for line in lines], expected)
        nodes = [line[0] for line in expected]
        self.assertEqual(tree.nodes(), nodes)
        self.assertEqual(tree.numbers(), [node for node, _, live in expected if live])
        for node, parent, live in expected:
            self.assertEqual(tree.parent(node), parent)
            self.assertIs(tree.is_live(node), live)
            self.assertEqual(tree.children(node), [child for child, above, _ in expected if above == node])


class NewTreeTest(TreeCase):
    def test_the_root(self):
        tree = Tree(SCHEMA)
        self.shape(tree, [(0, -1, True)])
        self.assertEqual(tree.next_number(), 1)
        self.assertEqual(tree.script(0), [])
        self.assertEqual(tree.schema(0), SCHEMA)
        self.assertEqual(tree.children(0), [])
        self.assertEqual(tree.walk(0), [])
        self.assertEqual(tree.path(0, 0), [0])
        self.assertEqual(tree.outline(), (1, [(0, -1, True, [])], SCHEMA))
        for number in (-1, 1, 7):
            self.assertIs(tree.is_live(number), False)

    def test_the_schema_is_copied(self):
        schema = copy.deepcopy(SCHEMA)
        tree = Tree(schema)
        schema["person"]["columns"].append(("x", "int", True))
        schema["more"] = schema.pop("person")
        self.assertEqual(tree.schema(0), SCHEMA)


class AddTest(TreeCase):
    def test_numbers_parents_scripts_and_schemas(self):
        tree = Tree(SCHEMA)
        scripts = [adding("a"), adding("b") + adding("c"), [], [("drop_column", "person", "a", None)]]
        for number, (parent, script) in enumerate(zip((0, 0, 2, 1), scripts), 1):
            self.assertEqual(tree.next_number(), number)
            self.assertEqual(tree.add(parent, script), number)
            self.assertEqual(tree.script(number), script)
            self.assertEqual(tree.schema(number), script_schema(tree.schema(parent), script))
        self.shape(tree, [(0, -1, True), (1, 0, True), (2, 0, True), (3, 2, True), (4, 1, True)])
        names = [[column[0] for column in tree.schema(node)["person"]["columns"]] for node in tree.nodes()]
        self.assertEqual(names, [["id", "name"], ["id", "name", "a"], ["id", "name", "b", "c"],
                                 ["id", "name", "b", "c"], ["id", "name"]])
        lines = [(0, -1, True, [])]
        lines += [(number, parent, True, script) for number, (parent, script) in
                  enumerate(zip((0, 0, 2, 1), scripts), 1)]
        self.assertEqual(tree.outline(), (5, lines, SCHEMA))

    def test_numbers_are_never_given_twice(self):
        tree = grown([0, 0])
        self.assertEqual(tree.prune(2), [2])
        self.assertEqual(tree.next_number(), 3)
        self.assertEqual(tree.add(0, []), 3)
        tree.prune(3)
        tree.prune(1)
        self.assertEqual(tree.nodes(), [0])
        self.assertEqual(tree.add(0, adding("a")), 4)
        self.step_fails(tree, "taken", 0, "add", 4, adding("a"))
        self.assertEqual(tree.add(4, []), 5)

    def test_missing(self):
        tree = grown([0, 1, 2])
        tree.prune(1)
        self.assertEqual(tree.nodes(), [0, 1, 2, 3])
        for parent in (1, 4, -1, 99):
            self.fails(tree, "missing", "add", parent, [])
            self.fails(tree, "missing", "add", parent, [("drop_table", "nowhere")])

    def test_full(self):
        tree = grown([0] * 6)
        self.assertEqual(tree.add(0, []), 7)
        self.assertEqual(len(tree.nodes()), 8)
        self.fails(tree, "full", "add", 0, [])
        self.fails(tree, "full", "add", 7, [("drop_table", "nowhere")])
        self.fails(tree, "missing", "add", 8, [])
        tree.prune(3)
        self.assertEqual(tree.add(0, []), 8)
        self.fails(tree, "full", "add", 0, [])

    def test_pruned_nodes_count_for_full(self):
        tree = Tree(SCHEMA)
        for parent in range(7):
            tree.add(parent, [])
        for number in range(1, 7):
            self.assertEqual(tree.prune(number), [])
        self.assertEqual(tree.numbers(), [0, 7])
        self.fails(tree, "full", "add", 0, [])
        self.fails(tree, "missing", "add", 3, [])

    def test_step_errors(self):
        tree = grown([0])
        self.step_fails(tree, "missing", 0, "add", 0, [("drop_table", "nowhere")])
        self.step_fails(tree, "taken", 1, "add", 0, adding("b") + adding("b") + [("drop_table", "nowhere")])
        self.step_fails(tree, "taken", 0, "add", 1, adding("a"))
        self.step_fails(tree, "long", 6, "add", 0, [("drop_table", "nowhere")] * 7)
        self.assertEqual(tree.add(1, []), 2)

    def test_the_script_is_copied(self):
        tree = Tree(SCHEMA)
        script = adding("a")
        tree.add(0, script)
        script.append(("drop_table", "person"))
        self.assertEqual(tree.script(1), adding("a"))
        self.assertEqual(tree.outline()[1][1], (1, 0, True, adding("a")))


class WalkTest(TreeCase):
    """The tree: 0 has 1, 2 and 5; 1 has 3 and 6; 2 has 4; 4 has 7."""

    def setUp(self):
        self.tree = grown([0, 0, 1, 2, 0, 1, 4])
        self.tree.prune(2)
        self.tree.prune(1)

    def test_walk(self):
        walks = {
            0: [(0, 1), (0, 2), (0, 5), (1, 3), (1, 6), (2, 4), (4, 7)],
            1: [(1, 0), (1, 3), (1, 6), (0, 2), (0, 5), (2, 4), (4, 7)],
            2: [(2, 0), (2, 4), (0, 1), (0, 5), (4, 7), (1, 3), (1, 6)],
            3: [(3, 1), (1, 0), (1, 6), (0, 2), (0, 5), (2, 4), (4, 7)],
            4: [(4, 2), (4, 7), (2, 0), (0, 1), (0, 5), (1, 3), (1, 6)],
            5: [(5, 0), (0, 1), (0, 2), (1, 3), (1, 6), (2, 4), (4, 7)],
            6: [(6, 1), (1, 0), (1, 3), (0, 2), (0, 5), (2, 4), (4, 7)],
            7: [(7, 4), (4, 2), (2, 0), (0, 1), (0, 5), (1, 3), (1, 6)],
        }
        self.assertEqual(self.tree.nodes(), sorted(walks))
        for node, expected in walks.items():
            self.assertEqual(self.tree.walk(node), expected)

    def test_walk_takes_a_parent_with_a_greater_number_in_its_place(self):
        tree = grown([0, 0, 0])
        tree.rebase(1, 2)
        tree.add(1, [])
        tree.add(1, [])
        tree.rebase(4, 3)
        tree.rebase(1, 4)
        # Now 0 has 2 and 3, 3 has 4, 4 has 1, 1 has 5.
        self.assertEqual(tree.walk(1), [(1, 4), (1, 5), (4, 3), (3, 0), (0, 2)])
        self.assertEqual(tree.walk(4), [(4, 1), (4, 3), (1, 5), (3, 0), (0, 2)])

    def test_path(self):
        paths = {
            (0, 0): [0], (3, 3): [3], (0, 7): [0, 2, 4, 7], (7, 0): [7, 4, 2, 0], (3, 6): [3, 1, 6],
            (6, 7): [6, 1, 0, 2, 4, 7], (7, 6): [7, 4, 2, 0, 1, 6], (5, 3): [5, 0, 1, 3], (2, 1): [2, 0, 1],
            (4, 2): [4, 2], (1, 3): [1, 3],
        }
        for (start, end), expected in paths.items():
            self.assertEqual(self.tree.path(start, end), expected)

    def test_every_path(self):
        """Neighbours follow each other, the ends are right, and no node stands twice."""
        for start in self.tree.nodes():
            for end in self.tree.nodes():
                path = self.tree.path(start, end)
                self.assertEqual((path[0], path[-1]), (start, end))
                self.assertEqual(len(set(path)), len(path))
                for one, two in zip(path, path[1:]):
                    self.assertTrue(self.tree.parent(one) == two or self.tree.parent(two) == one)
                self.assertEqual(path[::-1], self.tree.path(end, start))


class PruneTest(TreeCase):
    def test_a_leaf(self):
        tree = grown([0, 1])
        self.assertEqual(tree.prune(2), [2])
        self.shape(tree, [(0, -1, True), (1, 0, True)])
        self.assertIs(tree.is_live(2), False)
        self.fails(tree, "missing", "prune", 2)

    def test_a_node_between_two_others(self):
        tree = grown([0, 1])
        self.assertEqual(tree.prune(1), [])
        self.shape(tree, [(0, -1, True), (1, 0, False), (2, 1, True)])
        self.assertEqual(tree.script(1), adding("a"))
        self.assertEqual(len(tree.schema(1)["person"]["columns"]), 3)
        self.fails(tree, "missing", "prune", 1)
        # When it becomes a leaf, it goes, too.
        self.assertEqual(tree.prune(2), [2, 1])
        self.shape(tree, [(0, -1, True)])

    def test_a_root_with_one_child(self):
        tree = grown([0, 1, 1])
        schema = tree.schema(1)
        self.assertEqual(tree.prune(0), [0])
        self.shape(tree, [(1, -1, True), (2, 1, True), (3, 1, True)])
        self.assertEqual(tree.script(1), [])
        self.assertEqual(tree.schema(1), schema)
        self.assertEqual(tree.outline(), (4, [(1, -1, True, []), (2, 1, True, adding("b")),
                                              (3, 1, True, adding("c"))], schema))
        self.assertEqual(tree.add(1, adding("z")), 4)
        self.fails(tree, "root", "rebase", 1, 2)

    def test_a_root_with_two_children(self):
        tree = grown([0, 0])
        self.assertEqual(tree.prune(0), [])
        self.shape(tree, [(0, -1, False), (1, 0, True), (2, 0, True)])
        self.assertEqual(tree.walk(1), [(1, 0), (0, 2)])
        self.assertEqual(tree.prune(1), [1, 0])
        self.shape(tree, [(2, -1, True)])
        self.assertEqual(tree.outline()[2], script_schema(SCHEMA, adding("b")))
        self.fails(tree, "last", "prune", 2)

    def test_several_removals_in_their_order(self):
        # A chain whose root is 0: all but 3 are pruned. The node with the least number goes first.
        tree = grown([0, 1, 2, 3, 4])
        for number in (1, 2, 4):
            self.assertEqual(tree.prune(number), [])
        self.assertEqual(tree.prune(0), [0, 1, 2])
        self.shape(tree, [(3, -1, True), (4, 3, False), (5, 4, True)])
        self.assertEqual(tree.prune(5), [5, 4])
        self.shape(tree, [(3, -1, True)])

    def test_removals_on_both_sides(self):
        # 4 is below 0, 0 has 1, 1 has 2 and 3; when 4 goes, all but 2 and 3 have gone or connect others.
        tree = grown([0, 1, 1, 0])
        self.assertEqual(tree.prune(0), [])
        self.assertEqual(tree.prune(1), [])
        self.assertEqual(tree.prune(4), [4, 0])
        self.shape(tree, [(1, -1, False), (2, 1, True), (3, 1, True)])
        self.assertEqual(tree.outline()[2], script_schema(SCHEMA, adding("a")))
        self.assertEqual(tree.prune(3), [3, 1])
        self.shape(tree, [(2, -1, True)])

    def test_the_least_number_goes_first(self):
        # The chain 2 - 0 - 1 - 3, where 0 and 1 are pruned: when 3 goes, 1 and 0 follow; when 2 goes, 0 and 1 do.
        for last, expected in ((3, [3, 1, 0]), (2, [2, 0, 1])):
            tree = grown([0, 0, 1])
            tree.prune(0)
            tree.prune(1)
            self.assertEqual(tree.prune(last), expected)
            self.assertEqual(tree.nodes(), [5 - last])

    def test_the_root_that_is_removed_may_be_followed_by_a_pruned_one(self):
        tree = grown([0, 1, 1, 0])
        tree.prune(1)
        tree.prune(4)
        self.assertEqual(tree.prune(0), [0])
        self.shape(tree, [(1, -1, False), (2, 1, True), (3, 1, True)])
        self.assertEqual(tree.script(1), [])

    def test_missing_and_last(self):
        tree = Tree(SCHEMA)
        self.fails(tree, "missing", "prune", 1)
        self.fails(tree, "missing", "prune", -1)
        self.fails(tree, "last", "prune", 0)
        tree = grown([0, 1])
        tree.prune(1)
        self.fails(tree, "missing", "prune", 1)
        tree.prune(0)
        self.fails(tree, "last", "prune", 2)
        self.fails(tree, "missing", "prune", 0)


class RebaseTest(TreeCase):
    def columns(self, tree, number):
        return "".join([column[0] for column in tree.schema(number)["person"]["columns"][2:]])

    def test_the_schemas_are_made_anew(self):
        tree = grown([0, 0, 1, 3, 3])
        self.assertEqual(tree.rebase(3, 2), [])
        self.shape(tree, [(0, -1, True), (1, 0, True), (2, 0, True), (3, 2, True), (4, 3, True), (5, 3, True)])
        self.assertEqual([self.columns(tree, node) for node in tree.nodes()], ["", "a", "b", "bc", "bcd", "bce"])
        self.assertEqual([tree.script(node) for node in (3, 4, 5)], [adding("c"), adding("d"), adding("e")])
        self.assertEqual(tree.next_number(), 6)
        self.assertEqual(tree.rebase(3, 0), [])
        self.assertEqual([self.columns(tree, node) for node in tree.nodes()], ["", "a", "b", "c", "cd", "ce"])

    def test_the_order_of_tables_and_columns_below(self):
        tree = grown([0, 0])
        tree.add(2, [("rename_table", "person", "folk")])
        tree.rebase(2, 1)
        self.assertEqual([column[0] for column in tree.schema(3)["folk"]["columns"]], ["id", "name", "a", "b"])

    def test_below_nodes_that_are_pruned(self):
        tree = grown([0, 0, 2, 3])
        tree.prune(3)
        self.assertEqual(tree.rebase(2, 1), [])
        self.shape(tree, [(0, -1, True), (1, 0, True), (2, 1, True), (3, 2, False), (4, 3, True)])
        self.assertEqual([self.columns(tree, node) for node in tree.nodes()], ["", "a", "ab", "abc", "abcd"])

    def test_pruned_nodes_that_are_let_go(self):
        tree = grown([0, 1, 2, 0])
        tree.prune(1)
        tree.prune(2)
        self.assertEqual(tree.rebase(3, 4), [2, 1])
        self.shape(tree, [(0, -1, True), (3, 4, True), (4, 0, True)])
        self.assertEqual(self.columns(tree, 3), "dc")

    def test_a_pruned_root_that_is_let_go(self):
        tree = grown([0, 0, 1])
        tree.prune(0)
        schema = tree.schema(1)
        self.assertEqual(tree.rebase(2, 3), [0])
        self.shape(tree, [(1, -1, True), (2, 3, True), (3, 1, True)])
        self.assertEqual(tree.schema(1), schema)
        self.assertEqual(tree.script(1), [])
        self.assertEqual(self.columns(tree, 2), "acb")
        self.assertEqual(tree.outline()[2], schema)

    def test_a_chain_of_pruned_roots_that_is_let_go(self):
        tree = grown([0, 1, 1, 2])
        tree.prune(1)
        tree.prune(0)
        self.assertEqual(tree.nodes(), [1, 2, 3, 4])
        self.assertEqual(tree.rebase(3, 4), [1])
        self.shape(tree, [(2, -1, True), (3, 4, True), (4, 2, True)])

    def test_missing(self):
        tree = grown([0, 0, 2, 3])
        tree.prune(3)
        for number in (3, 9, -1):
            self.fails(tree, "missing", "rebase", number, 1)
            self.fails(tree, "missing", "rebase", 1, number)
            self.fails(tree, "missing", "rebase", number, number)
            self.fails(tree, "missing", "rebase", 0, number)
            self.fails(tree, "missing", "rebase", number, 0)

    def test_root_below_and_same(self):
        tree = grown([0, 1, 2, 0])
        for parent in (0, 1, 2, 3, 4):
            self.fails(tree, "root", "rebase", 0, parent)
        for parent in (1, 2, 3):
            self.fails(tree, "below", "rebase", 1, parent)
        self.fails(tree, "below", "rebase", 3, 3)
        self.fails(tree, "below", "rebase", 4, 4)
        for number, parent in ((1, 0), (2, 1), (3, 2), (4, 0)):
            self.fails(tree, "same", "rebase", number, parent)

    def test_step_errors(self):
        tree = grown([0, 0])
        tree.add(1, adding("b"))
        tree.add(1, adding("x") + adding("y"))
        tree.add(4, adding("b"))
        self.step_fails(tree, "taken", 0, "rebase", 3, 2)
        self.step_fails(tree, "taken", 0, "rebase", 4, 2)
        tree.add(1, adding("x"))
        self.step_fails(tree, "taken", 0, "rebase", 4, 6)
        self.step_fails(tree, "taken", 0, "rebase", 6, 5)
        tree.add(2, adding("q") + adding("y"))
        self.step_fails(tree, "taken", 1, "rebase", 4, 7)
        self.step_fails(tree, "taken", 1, "rebase", 7, 4)

    def test_the_first_script_that_fails_in_the_order_of_the_walk(self):
        tree = Tree(SCHEMA)
        tree.add(0, [("drop_column", "person", "name", None), ("create_table", "a", (KEY,)),
                     ("create_table", "b", (KEY,)), ("create_table", "c", (KEY,))])
        tree.add(0, [])
        tree.add(2, [])
        tree.add(2, [])
        tree.add(3, [("rename_column", "person", "name", "title")])
        tree.add(4, adding("x") + [("create_table", "a", (KEY,))])
        tree.add(2, adding("x") + adding("y") + [("create_table", "b", (KEY,))])
        # The walk from 2 reaches 3, 4 and 7, and then 5 and 6.
        self.step_fails(tree, "taken", 2, "rebase", 2, 1)
        tree.prune(7)
        self.step_fails(tree, "missing", 0, "rebase", 2, 1)
        tree.prune(5)
        self.step_fails(tree, "taken", 1, "rebase", 2, 1)
        tree.prune(6)
        self.assertEqual(tree.rebase(2, 1), [])
        self.assertEqual(tree.schema(3), tree.schema(1))


class CopyTest(TreeCase):
    def test_a_copy_is_equal_and_independent(self):
        tree = grown([0, 1, 1])
        tree.prune(1)
        before = view(tree)
        other = tree.copy_tree()
        self.assertIs(type(other), Tree)
        self.assertEqual(view(other), before)
        other.add(2, adding("x"))
        other.rebase(3, 2)
        other.prune(0)
        self.assertEqual(view(tree), before)
        after = view(other)
        tree.prune(2)
        self.assertNotEqual(view(tree), before)
        self.assertEqual(view(other), after)
        self.assertEqual(other.next_number(), 5)

    def test_what_is_handed_out_can_be_changed(self):
        tree = grown([0, 1, 0])
        before = copy.deepcopy(view(tree))
        outline = tree.outline()
        outline[1][1][3].append("x")
        outline[1].clear()
        outline[2]["person"]["columns"].clear()
        for handed in (tree.numbers(), tree.nodes(), tree.script(1), tree.children(0), tree.walk(0), tree.path(0, 2)):
            handed.append(9)
            handed.clear()
        tree.schema(1)["person"]["columns"].clear()
        tree.schema(0).clear()
        removed = tree.copy_tree().prune(3)
        removed.append(1)
        self.assertEqual(view(tree), before)

    def test_nothing_is_handed_out_twice(self):
        tree = grown([0, 1, 0])
        first, second = view(tree), view(tree)
        self.assertEqual(containers(first) & containers(second), set())
        self.assertEqual(containers(view(tree.copy_tree())) & containers(first), set())

    def test_rebase_and_prune_return_new_lists(self):
        tree = grown([0, 1, 0])
        removed = tree.rebase(2, 0)
        removed.append(3)
        self.assertEqual(tree.nodes(), [0, 1, 2, 3])
        removed = tree.prune(3)
        removed.append(0)
        self.assertEqual(tree.nodes(), [0, 1, 2])


class ManyTreesTest(TreeCase):
    def test_the_rules_of_pruned_nodes_hold_after_each_call(self):
        """Each pruned node that is left has two neighbours; there is one root; schemas follow the scripts."""
        source = random.Random(36)
        for _ in range(60):
            tree = Tree(SCHEMA)
            given = [0]
            for _ in range(25):
                act = source.randrange(4)
                node, other = source.choice(given), source.choice(given)
                before = view(tree)
                try:
                    if act < 2:
                        given.append(tree.add(node, adding(COLUMN[len(given)])[:source.randrange(2)]))
                    elif act == 2:
                        removed = tree.prune(node)
                        self.assertEqual(sorted(set(before[1]) - set(tree.nodes())), sorted(removed))
                    else:
                        tree.rebase(node, other)
                        self.assertEqual(tree.parent(node), other)
                except (VersionError, StepError):
                    self.assertEqual(view(tree), before)
                self.keeps_its_rules(tree, given)

    def keeps_its_rules(self, tree, given):
        nodes = tree.nodes()
        self.assertEqual(tree.next_number(), len(given))
        self.assertLessEqual(len(nodes), 8)
        self.assertEqual(len([node for node in nodes if tree.parent(node) == -1]), 1)
        self.assertNotEqual(tree.numbers(), [])
        for node in nodes:
            parent = tree.parent(node)
            if not tree.is_live(node):
                self.assertGreater(len(tree.children(node)) + (parent != -1), 1)
            if parent == -1:
                self.assertEqual((tree.script(node), tree.schema(node)), ([], tree.outline()[2]))
            else:
                self.assertEqual(tree.schema(node), script_schema(tree.schema(parent), tree.script(node)))
            self.assertEqual(sorted([far for _, far in tree.walk(node)] + [node]), nodes)


class ChecksOfSchemasTest(TreeCase):
    def test_a_check_below_a_new_parent(self):
        """A script whose step no longer fits the schema above fails; all stays."""
        tree = Tree(SCHEMA)
        tree.add(0, [("convert", "person", "name", "int", True)])
        tree.add(0, [("add_check", "person", only("name", "=", "a"))])
        self.step_fails(tree, "condition", 0, "rebase", 2, 1)
        self.step_fails(tree, "used", 0, "rebase", 1, 2)


if __name__ == "__main__":
    unittest.main()
