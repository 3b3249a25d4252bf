"""Points 42 and 43: the tests of prune and rebase that each kind of store must pass."""

from tests.store_case import GROWN, KEY, PERSON, SPLIT
from tests.support import only


class PruneTests:
    def test_a_leaf_and_its_number(self):
        store = self.store([SPLIT], [GROWN])
        before = store.show(0)
        self.prunes(store, 1)
        self.assertEqual(store.tree.nodes(), [0, 2])
        self.shows(store, {0: before, 2: {"person": {1: ("al b", 30)}}})
        self.assertEqual(store.complements(2), [{"hidden": {2: (None, 7)}}])
        self.no_version(store, "missing", "show", 1)
        self.evolves(store, 2, [SPLIT], 3)
        self.assertEqual(store.complements(3), [{"pairs": {1: ("al b", ("al", "b"))}}])

    def test_a_node_between_two_others_keeps_what_it_knows(self):
        store = self.store([GROWN])
        self.evolves(store, 1, [SPLIT], 2)
        complements = [store.complements(1), store.complements(2)]
        self.prunes(store, 1)
        self.assertEqual([store.complements(1), store.complements(2)], complements)
        self.writes(store, 2, ("insert", "person", (8, "x", "y", 80)))
        self.assertEqual(store.show(0)["person"], {1: ("al b", 30), 2: (None, 7), 8: ("x y", 80)})
        self.assertEqual(store.complements(2)[0]["pairs"][8], ("x y", ("x", "y")))

    def test_a_root_that_is_removed(self):
        store = self.store([GROWN])
        self.evolves(store, 1, [SPLIT], 2)
        below = store.complements(2)
        self.prunes(store, 0)
        self.assertEqual(store.tree.nodes(), [1, 2])
        self.assertEqual(store.complements(1), [])
        self.assertEqual(store.complements(2), below)
        self.shows(store, {1: {"person": {1: ("al b", 30)}}, 2: {"person": {1: ("al", "b", 30)}}})
        # What was hidden from the new root is gone.
        self.writes(store, 2, ("insert", "person", (2, "x", "y", 80)))
        self.assertEqual(store.show(1)["person"], {1: ("al b", 30), 2: ("x y", 80)})

    def test_a_root_that_stays(self):
        store = self.store([GROWN], [SPLIT])
        complements = [store.complements(1), store.complements(2)]
        self.prunes(store, 0)
        self.assertEqual([store.complements(1), store.complements(2)], complements)
        self.assertEqual(store.complements(0), [])
        self.assertEqual(store.tree.nodes(), [0, 1, 2])
        self.writes(store, 2, ("set", "person", 2, "age", 70))
        self.assertEqual(store.show(1)["person"], {1: ("al b", 30), 2: (None, 70)})
        self.prunes(store, 2)
        self.assertEqual(store.tree.nodes(), [1])
        self.shows(store, {1: {"person": {1: ("al b", 30), 2: (None, 70)}}})
        self.assertEqual(store.complements(1), [])

    def test_missing_and_last(self):
        store = self.store()
        self.no_version(store, "last", "prune", 0)
        self.no_version(store, "missing", "prune", 1)
        self.evolves(store, 0, [], 1)
        self.evolves(store, 1, [], 2)
        self.prunes(store, 1)
        self.no_version(store, "missing", "prune", 1)
        self.prunes(store, 2)
        self.no_version(store, "last", "prune", 0)
        self.no_version(store, "missing", "prune", 2)


class RebaseTests:
    def test_the_states_are_carried_with_the_complements(self):
        store = self.store([("add_column", "person", "town", "text", True, "ulm")], [GROWN])
        self.evolves(store, 1, [SPLIT], 3)
        self.writes(store, 1, ("set", "person", 1, "town", "bonn"))
        self.writes(store, 3, ("insert", "person", (4, "c", "d e", 40, "jena")))
        self.writes(store, 3, ("replace", "person", (4, "c d", "e", 40, "jena")))
        self.rebases(store, 1, 2)
        self.assertEqual(store.tree.outline()[1], [
            (0, -1, True, []), (1, 2, True, [("add_column", "person", "town", "text", True, "ulm")]),
            (2, 0, True, [GROWN]), (3, 1, True, [SPLIT]),
        ])
        self.shows(store, {
            0: {"person": {1: ("al b", 30), 2: (None, 7), 4: ("c d e", 40)}},
            1: {"person": {1: ("al b", 30, "bonn"), 4: ("c d e", 40, "jena")}},
            2: {"person": {1: ("al b", 30), 4: ("c d e", 40)}},
            3: {"person": {1: ("al", "b", 30, "bonn"), 4: ("c d", "e", 40, "jena")}},
        })
        self.assertEqual(store.complements(1), [{"values": {1: "bonn", 4: "jena"}}])
        self.assertEqual(store.complements(3), [{"pairs": {1: ("al b", ("al", "b")), 4: ("c d e", ("c d", "e"))}}])
        self.assertEqual(store.complements(2), [{"hidden": {2: (None, 7)}}])
        self.rebases(store, 1, 0)
        self.assertEqual(store.show(1)["person"][2], (None, 7, "ulm"))

    def test_under_and_over_others(self):
        """The rows that a version hides are hidden from all that come below it, and show when they leave it."""
        store = self.store([GROWN], [("rename_column", "person", "name", "title")])
        self.evolves(store, 2, [SPLIT[:2] + ("title",) + SPLIT[3:]], 3)
        self.rebases(store, 2, 1)
        self.shows(store, {
            0: {"person": {1: ("al b", 30), 2: (None, 7)}}, 1: {"person": {1: ("al b", 30)}},
            2: {"person": {1: ("al b", 30)}}, 3: {"person": {1: ("al", "b", 30)}},
        })
        self.assertEqual(store.tree.path(0, 3), [0, 1, 2, 3])
        self.no_version(store, "below", "rebase", 1, 3)
        self.rebases(store, 2, 0)
        self.rebases(store, 1, 2)
        self.shows(store, {
            0: {"person": {1: ("al b", 30), 2: (None, 7)}}, 1: {"person": {1: ("al b", 30)}},
            2: {"person": {1: ("al b", 30), 2: (None, 7)}}, 3: {"person": {1: ("al", "b", 30), 2: (None, None, 7)}},
        })
        self.assertEqual(store.complements(1), [{"hidden": {2: (None, 7)}}])
        self.assertEqual([column[0] for column in store.tree.schema(1)["person"]["columns"]], ["id", "title", "age"])
        # A row that is hidden has the columns of the table, so it does not fit where the table has others.
        self.no_version(store, "complement", "rebase", 1, 3)

    def test_a_rejection_ahead_of_a_complement_that_does_not_fit(self):
        """The pairs are taken one by one."""
        store = self.store([("convert", "person", "age", "text", False)], [GROWN])
        self.evolves(store, 2, [("decompose", "person", "names", ("name",))], 3)
        self.evolves(store, 3, [("add_unique", "person", "age")], 4)
        self.writes(store, 3, ("insert", "names", (2, "q")))
        self.rejects(store, (3, "hidden", "person", 2), "rebase", 3, 1)
        self.rejects(store, (3, "hidden", "person", 2), "rebase", 3, 0)
        self.writes(store, 3, ("delete", "names", 2))
        self.no_version(store, "complement", "rebase", 3, 1)
        self.rebases(store, 3, 0)
        self.assertEqual(store.show(4), {"person": {1: (30,), 2: (7,)}, "names": {1: ("al b",), 2: (None,)}})

    def test_version_errors(self):
        store = self.store([], [SPLIT])
        self.evolves(store, 1, [], 3)
        self.evolves(store, 3, [], 4)
        self.prunes(store, 3)
        for number in (3, 9, -1):
            self.no_version(store, "missing", "rebase", number, 2)
            self.no_version(store, "missing", "rebase", 2, number)
            self.no_version(store, "missing", "rebase", 0, number)
        self.no_version(store, "root", "rebase", 0, 0)
        self.no_version(store, "root", "rebase", 0, 1)
        self.no_version(store, "below", "rebase", 1, 1)
        self.no_version(store, "below", "rebase", 1, 4)
        self.no_version(store, "same", "rebase", 1, 0)
        self.no_version(store, "same", "rebase", 2, 0)

    def test_step_errors(self):
        store = self.store([SPLIT], [SPLIT])
        self.no_step(store, "missing", 0, "rebase", 1, 2)
        self.evolves(store, 0, [("rename_table", "person", "folk")], 3)
        self.no_step(store, "missing", 0, "rebase", 2, 3)
        self.evolves(store, 0, [], 4)
        self.evolves(store, 4, [("create_table", "a", (KEY,)), ("rename_table", "person", "b")], 5)
        self.no_step(store, "missing", 1, "rebase", 4, 3)

    def test_complements_that_do_not_fit(self):
        store = self.store([("convert", "person", "age", "text", False)], [("add_unique", "person", "age")])
        self.assertEqual(store.complements(2)[0]["shown"], {1: ("al b", 30), 2: (None, 7)})
        self.no_version(store, "complement", "rebase", 2, 1)
        # An empty complement fits, so a store without rows lets it happen.
        self.writes(store, 0, ("delete", "person", 1), ("delete", "person", 2))
        self.rebases(store, 2, 1)
        self.writes(store, 2, ("insert", "person", (1, "al", "x")))
        self.no_version(store, "complement", "rebase", 2, 0)

    def test_complements_of_edges_below_that_do_not_fit(self):
        store = self.store([("convert", "person", "age", "text", False)], [SPLIT])
        self.evolves(store, 2, [("drop_column", "person", "age", 0)], 3)
        self.evolves(store, 2, [("add_column", "person", "x", "int", True, 4)], 4)
        self.evolves(store, 4, [("add_check", "person", only("x", "=", 4))], 5)
        self.evolves(store, 4, [("add_unique", "person", "first")], 6)
        # The edges of 2 and 4 fit, that of 5 has nothing hidden, that of 6 has shown what does not fit any more;
        # that of 3 comes first of all, and its step fails.
        self.no_step(store, "kind", 0, "rebase", 2, 1)
        self.prunes(store, 3)
        self.no_version(store, "complement", "rebase", 2, 1)
        self.prunes(store, 6)
        self.rebases(store, 2, 1)
        self.assertEqual(store.show(5), {"person": {1: ("al", "b", "30", 4), 2: (None, None, "7", 4)}})

    def test_the_complement_of_a_later_step(self):
        """Each complement is looked at with the schema that its own step has on its left."""
        script = [("add_column", "person", "x", "int", True, 4), ("drop_column", "person", "x", None),
                  ("add_check", "person", only("age", ">", 0))]
        store = self.store(script, [("reorder", "person", ("id", "age", "name"))])
        self.rebases(store, 1, 2)
        self.assertEqual(store.show(1), {"person": {1: (30, "al b"), 2: (7, None)}})
        self.writes(store, 2, ("set", "person", 2, "age", -1))
        self.assertEqual(store.complements(1)[2], {"hidden": {2: (-1, None)}})
        self.no_version(store, "complement", "rebase", 1, 0)
        self.writes(store, 2, ("set", "person", 2, "age", 1))
        self.rebases(store, 1, 0)

    def test_rejections(self):
        union = ("union", "a", "b", ())
        store = self.made({"a": PERSON, "b": PERSON})
        self.evolves(store, 0, [("drop_table", "b"), ("create_table", "b", tuple(PERSON["columns"]))], 1)
        self.evolves(store, 1, [], 2)
        self.evolves(store, 2, [union], 3)
        self.evolves(store, 2, [("rename_table", "a", "c"), ("union", "b", "c", ())], 4)
        self.writes(store, 0, ("insert", "a", (6, "x", 1)), ("insert", "b", (6, "x", 2)), ("insert", "a", (5, "x", 1)),
                    ("insert", "b", (5, "x", 2)))
        self.assertEqual(store.show(3), {"a": {5: ("x", 1), 6: ("x", 1)}})
        self.rejects(store, (3, "double", "a", 5), "rebase", 2, 0)
        self.rejects(store, (3, "double", "a", 5), "rebase", 3, 0)
        self.rejects(store, (4, "double", "b", 5), "rebase", 4, 0)
        self.prunes(store, 3)
        self.rejects(store, (4, "double", "b", 5), "rebase", 2, 0)
        self.prunes(store, 4)
        self.rebases(store, 2, 0)
        self.assertEqual(store.show(2), store.show(0))

    def test_a_fault_of_a_node_below(self):
        union = ("union", "a", "b", only("age", "=", 0))
        store = self.made({"a": PERSON, "b": PERSON})
        self.evolves(store, 0, [("add_check", "a", ())], 1)
        self.evolves(store, 0, [], 2)
        self.evolves(store, 2, [("add_check", "b", ()), ("drop_check", "b", ())], 3)
        self.evolves(store, 3, [union], 4)
        for start in (0, 20):
            self.writes(store, 0, *[("insert", "a", (key, None, 0)) for key in range(start, start + 20)])
            self.writes(store, 0, *[("insert", "b", (key + 60, None, 0)) for key in range(start, start + 20)])
        self.rejects(store, (4, "full", "a", 80), "rebase", 4, 0)
        self.no_version(store, "missing", "rebase", 4, 5)
        self.assertEqual(len(store.show(4)["a"]), 40)

    def test_the_new_parent_and_others_stay(self):
        store = self.store([GROWN], [SPLIT], [])
        self.rebases(store, 3, 1)
        left = {"person": {1: ("al b", 30), 2: (None, 7)}}
        self.shows(store, {0: left, 1: {"person": {1: ("al b", 30)}},
                           2: {"person": {1: ("al", "b", 30), 2: (None, None, 7)}}, 3: {"person": {1: ("al b", 30)}}})

    def test_pruned_nodes_are_removed_at_the_end(self):
        store = self.store([SPLIT], [])
        self.evolves(store, 1, [GROWN], 3)
        self.prunes(store, 1)
        self.assertEqual(store.tree.nodes(), [0, 1, 2, 3])
        self.writes(store, 0, ("set", "person", 1, "name", "q"))
        self.no_version(store, "complement", "rebase", 3, 2)
        self.writes(store, 0, ("set", "person", 2, "age", 18))
        self.rebases(store, 3, 2)
        self.assertEqual(store.tree.nodes(), [0, 2, 3])
        self.assertEqual(store.complements(3), [{"hidden": {}}])
        self.shows(store, {number: {"person": {1: ("q", 30), 2: (None, 18)}} for number in (0, 2, 3)})

    def test_a_pruned_root_is_removed_at_the_end(self):
        store = self.store([GROWN], [SPLIT])
        self.evolves(store, 1, [], 3)
        self.prunes(store, 0)
        self.rebases(store, 2, 3)
        self.assertEqual(store.tree.outline()[1], [(1, -1, True, []), (2, 3, True, [SPLIT]), (3, 1, True, [])])
        self.assertEqual(store.complements(1), [])
        self.assertEqual(store.complements(2), [{"pairs": {1: ("al b", ("al", "b"))}}])
        self.shows(store, {1: {"person": {1: ("al b", 30)}}, 2: {"person": {1: ("al", "b", 30)}},
                           3: {"person": {1: ("al b", 30)}}})
