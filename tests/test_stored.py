"""Points 39 to 45: a store that keeps the state of its home alone."""

import copy
import unittest

from lenstree.errors import RejectedError, StepError, VersionError
from lenstree.stored import Stored
from lenstree.tree import Tree
from tests.homes import MovingStored, NewestStored, RoamingStored, ShyStored, go_home, store_cases
from tests.store_case import AL, BO, COLUMNS, GROWN, KEY, MOVING, PERSON, SCHEMA, SPLIT, StoreCase, view
from tests.support import described, only, wreck

globals().update(store_cases(ShyStored, "Shy"))
globals().update(store_cases(NewestStored, "Newest"))
globals().update(store_cases(RoamingStored, "Roaming"))
globals().update(store_cases(MovingStored, "Moving"))


class StoredCase(StoreCase):
    def made(self, schema):
        return Stored(schema)

    def refuses(self, store, error, fields, method, *arguments):
        """See that a call raises the error, and that the image is as before."""
        before = copy.deepcopy(store.image())
        self.fails(store, error, fields, method, *arguments)
        self.assertEqual(store.image(), before)

    def codes(self, store, *calls):
        """See the codes of VersionError that calls raise; each is a tuple of the code, the method and its arguments."""
        for code, method, *arguments in calls:
            with self.subTest(method=method, arguments=arguments):
                self.refuses(store, VersionError, (code,), method, *arguments)


class HomeTest(StoredCase):
    def test_a_new_store(self):
        store = Stored(SCHEMA)
        self.assertIs(type(store.tree), Tree)
        self.assertEqual((store.home(), store.kept(), store.move_view()), (0, {"person": {}}, None))
        self.assertEqual(Stored({}).kept(), {})

    def test_what_is_kept_is_the_state_of_the_home(self):
        store = self.store([SPLIT], [GROWN])
        for home in (0, 2, 1, 2, 0, 1):
            go_home(store, home)
            self.assertEqual(store.home(), home)
            self.assertEqual(store.kept(), store.show(home))
            self.writes(store, 0, ("set", "person", 2, "age", 9 + home))
            self.assertEqual(store.kept(), store.show(home))
            self.assertEqual(store.show(1)["person"][2], (None, None, 9 + home))

    def test_states_are_the_same_from_each_home(self):
        store = self.store([SPLIT], [("decompose", "person", "ages", ("age",))])
        store.evolve(2, [("drop_table", "ages")])
        store.evolve(1, [("convert", "person", "age", "text", True)])
        store.write(3, [("delete", "person", 1), ("insert", "person", (6, "x y z"))])
        store.write(4, [("set", "person", 2, "age", "x"), ("set", "person", 6, "first", "x y")])
        before = view(store)
        for home in (4, 3, 2, 1, 0, 3, 1, 4, 0):
            go_home(store, home, 1)
            self.assertEqual(view(store), before)

    def test_what_is_handed_out_can_be_changed(self):
        store = self.store([SPLIT], [GROWN])
        store.begin_move(1)
        store.advance(1)
        before = copy.deepcopy(store.image())
        for thing in (store.kept(), store.move_view(), store.image(), store.show(1), store.complements(2)):
            wreck(thing)
            self.assertEqual(store.image(), before)

    def test_what_is_handed_in_can_be_changed(self):
        schema = copy.deepcopy(SCHEMA)
        store = Stored(schema)
        script = [SPLIT]
        edits = [AL, BO]
        store.write(0, edits)
        store.evolve(0, script)
        before = copy.deepcopy(store.image())
        for thing in (schema, script, edits):
            wreck(thing)
        self.assertEqual(store.image(), before)


class CodesTest(StoredCase):
    """The codes "home" and "moving", and what stands ahead of them and behind them."""

    def test_prune(self):
        store = self.store()
        self.codes(store, ("last", "prune", 0), ("missing", "prune", 1))
        store.evolve(0, [SPLIT])
        store.evolve(1, [])
        self.codes(store, ("home", "prune", 0), ("missing", "prune", 3), ("missing", "prune", -1))
        store.begin_move(2)
        self.codes(store, ("home", "prune", 0), ("moving", "prune", 2), ("missing", "prune", 3))
        store.advance(1)
        self.codes(store, ("moving", "prune", 2))
        store.prune(1)
        self.codes(store, ("missing", "prune", 1), ("moving", "prune", 2))
        self.assertEqual(store.tree.nodes(), [0, 1, 2])
        store.advance(5)
        self.codes(store, ("home", "prune", 2))
        self.assertEqual((store.home(), store.move_view()), (2, None))
        store.prune(0)
        self.assertEqual(store.tree.outline()[1], [(2, -1, True, [])])
        self.codes(store, ("last", "prune", 2))

    def test_the_last_version_is_the_home(self):
        """Pruned nodes may be left where the home is the only live version: "last" counts."""
        store = self.store([SPLIT])
        go_home(store, 1)
        store.prune(0)
        self.codes(store, ("last", "prune", 1), ("missing", "prune", 0))

    def test_stop_move_lets_prune_go_on(self):
        store = self.store([SPLIT])
        store.begin_move(1)
        self.codes(store, ("moving", "prune", 1))
        store.stop_move()
        store.prune(1)
        self.assertEqual(store.tree.nodes(), [0])

    def test_rebase_of_the_home_or_above_it(self):
        store = self.store([], [SPLIT])
        store.evolve(1, [])
        store.evolve(3, [])
        go_home(store, 3)
        self.codes(
            store, ("home", "rebase", 1, 2), ("home", "rebase", 3, 2), ("home", "rebase", 3, 0),
            ("missing", "rebase", 9, 2), ("missing", "rebase", 3, 9), ("root", "rebase", 0, 3),
            ("below", "rebase", 1, 3), ("below", "rebase", 3, 3), ("same", "rebase", 3, 1), ("same", "rebase", 1, 0),
        )
        # The home stands above these.
        self.rebases(store, 4, 2)
        self.rebases(store, 2, 3)
        self.assertEqual(store.tree.path(0, 4), [0, 1, 3, 2, 4])

    def test_home_before_moving(self):
        store = self.store([], [])
        go_home(store, 1)
        store.evolve(0, [])
        store.begin_move(2)
        store.advance(1)
        self.codes(
            store, ("home", "rebase", 1, 2), ("moving", "rebase", 2, 1), ("moving", "rebase", 3, 1),
            ("same", "rebase", 3, 0), ("below", "rebase", 3, 3), ("root", "rebase", 0, 0), ("missing", "rebase", 7, 0),
            ("home", "prune", 1), ("moving", "prune", 2),
        )
        store.stop_move()
        self.codes(store, ("home", "rebase", 1, 2))
        self.rebases(store, 3, 1)

    def test_ahead_of_step_errors(self):
        store = self.store([SPLIT], [SPLIT], [])
        go_home(store, 1)
        self.codes(store, ("home", "rebase", 1, 2))
        self.refuses(store, StepError, ("missing", 0), "rebase", 2, 1)
        store.begin_move(3)
        self.codes(store, ("home", "rebase", 1, 2), ("moving", "rebase", 2, 1))
        store.stop_move()
        self.refuses(store, StepError, ("missing", 0), "rebase", 2, 1)

    def test_ahead_of_complement(self):
        store = self.store([("convert", "person", "age", "text", False)], [("add_unique", "person", "age")])
        self.refuses(store, VersionError, ("complement",), "rebase", 2, 1)
        store.begin_move(1)
        self.codes(store, ("moving", "rebase", 2, 1))
        store.stop_move()
        go_home(store, 2)
        self.codes(store, ("home", "rebase", 2, 1))
        go_home(store, 1)
        self.codes(store, ("complement", "rebase", 2, 1))

    def test_ahead_of_rejections(self):
        union = ("union", "a", "b", ())
        store = self.made({"a": PERSON, "b": PERSON})
        store.evolve(0, [("drop_table", "b"), ("create_table", "b", tuple(PERSON["columns"]))])
        store.evolve(1, [union])
        store.write(0, [("insert", "a", (6, "x", 1)), ("insert", "b", (6, "x", 2))])
        store.begin_move(1)
        self.codes(store, ("moving", "rebase", 2, 0))
        store.stop_move()
        self.refuses(store, RejectedError, (2, "double", "a", 6), "rebase", 2, 0)
        go_home(store, 2)
        self.codes(store, ("home", "rebase", 2, 0))

    def test_refused_calls_leave_the_image(self):
        store = self.store([SPLIT], [GROWN])
        store.begin_move(2)
        store.advance(1)
        self.refuses(store, RejectedError, (0, "hidden", "person", 2), "write", 2, [("insert", "person", (2, "x", 20))])
        self.refuses(store, RejectedError, (2, "check", "person", 1), "write", 2, [("set", "person", 1, "age", 2)])
        self.refuses(store, StepError, ("missing", 1), "evolve", 1, [GROWN, ("drop_table", "x")])
        self.refuses(store, VersionError, ("missing",), "evolve", 3, [])
        self.refuses(store, VersionError, ("missing",), "write", 3, [])
        self.refuses(store, VersionError, ("missing",), "show", 3)


class PrunedNodesTest(StoredCase):
    def test_the_home_below_pruned_nodes(self):
        store = self.store([SPLIT], [GROWN])
        self.evolves(store, 1, [("rename_column", "person", "last", "sur")], 3)
        self.evolves(store, 1, [], 4)
        go_home(store, 3)
        self.prunes(store, 1)
        self.prunes(store, 0)
        self.assertEqual(store.tree.nodes(), [0, 1, 2, 3, 4])
        self.writes(store, 2, ("insert", "person", (5, "x y", 40)))
        self.shows(store, {
            2: {"person": {1: ("al b", 30), 5: ("x y", 40)}},
            3: {"person": {1: ("al", "b", 30), 2: (None, None, 7), 5: ("x", "y", 40)}},
            4: {"person": {1: ("al", "b", 30), 2: (None, None, 7), 5: ("x", "y", 40)}},
        })
        self.assertEqual(store.kept(), store.show(3))
        self.no_write(store, (0, "hidden", "person", 2), 2, ("insert", "person", (2, "x", 40)))
        self.prunes(store, 2)
        self.assertEqual(store.tree.nodes(), [1, 3, 4])
        self.prunes(store, 4)
        self.assertEqual(store.tree.nodes(), [3])
        self.assertEqual((store.home(), store.complements(3)), (3, []))
        self.assertEqual(store.kept()["person"][5], ("x", "y", 40))

    def test_rebase_of_others_leaves_the_home(self):
        store = self.store([GROWN], [SPLIT], [])
        go_home(store, 1)
        self.rebases(store, 2, 1)
        self.assertEqual((store.home(), store.kept()), (1, {"person": {1: ("al b", 30)}}))
        self.assertEqual(store.show(2), {"person": {1: ("al", "b", 30)}})
        self.rebases(store, 2, 3)
        self.assertEqual(store.show(2), {"person": {1: ("al", "b", 30), 2: (None, None, 7)}})

    def test_a_rebase_removes_pruned_nodes_above(self):
        store = self.store([SPLIT], [])
        self.evolves(store, 1, [], 3)
        go_home(store, 2)
        self.prunes(store, 1)
        self.no_version(store, "missing", "rebase", 1, 2)
        self.no_step(store, "missing", 0, "evolve", 3, [("drop_column", "person", "name", None)])
        self.rebases(store, 3, 2)
        self.assertEqual(store.tree.nodes(), [0, 2, 3])
        self.assertEqual([node for node, _ in store.image()[3]], [2, 3])


class FactsOf44Test(StoredCase):
    """Rows that a version does not show are never replaced by a write through it."""

    def hidden(self, script, store, key, row, table="person"):
        """Try to write the row at the version 1 that the script makes, and at versions below that."""
        self.evolves(store, 0, script, 1)
        self.evolves(store, 1, [], 2)
        self.evolves(store, 2, [("rename_table", table, "folk")], 3)
        for home in (0, 1, 2, 3):
            go_home(store, home)
            self.assertNotIn(key, store.show(1)[table])
            for version, name in ((1, table), (2, table), (3, "folk")):
                self.refuses(store, RejectedError, (0, "hidden", table, key), "write", version,
                             [("insert", name, (key,) + row)])

    def test_point_30(self):
        self.hidden([GROWN], self.store(), 2, ("x", 18))

    def test_point_31(self):
        store = self.store()
        store.write(0, [("insert", "person", (4, "al b", 50))])
        self.hidden([("add_unique", "person", "name")], store, 4, ("x", 18))
        schema = {"a": described([KEY, ("to", "int", True)]), "b": described([KEY])}
        store = self.made(schema)
        store.write(0, [("insert", "a", (7, 3)), ("insert", "a", (8, 4)), ("insert", "b", (3,))])
        self.hidden([("add_reference", "a", "to", "b")], store, 8, (3,), "a")

    def test_point_26(self):
        """A row of `other` whose key is not in the table is not shown on the left of decompose."""
        store = self.store([("decompose", "person", "ages", ("age",))])
        store.evolve(0, [])
        store.evolve(2, [("rename_table", "person", "folk")])
        store.write(1, [("insert", "ages", (8, 80)), ("insert", "ages", (9, 90))])
        for home in (0, 1, 3):
            go_home(store, home)
            for version, table in ((0, "person"), (2, "person"), (3, "folk")):
                self.refuses(store, RejectedError, (1, "hidden", "person", 8), "write", version,
                             [("insert", table, (9, "x", 1)), ("insert", table, (8, "x", 1))])
        # On the right of recompose it is the same.
        store = self.made({"person": PERSON, "ages": described([KEY, ("size", "int", False)])})
        store.write(0, [AL, ("insert", "ages", (1, 5)), ("insert", "ages", (6, 5))])
        store.evolve(0, [("recompose", "person", "ages")])
        self.assertEqual(store.show(1), {"person": {1: ("al b", 30, 5)}})
        self.refuses(store, RejectedError, (0, "hidden", "person", 6), "write", 1,
                     [("insert", "person", (6, "x", 1, 1))])

    def test_what_is_found_first_counts(self):
        store = self.store([GROWN])
        self.refuses(store, RejectedError, (1, "check", "person", 2), "write", 1, [("insert", "person", (2, "x", 1))])

    def test_no_steps_and_there_and_back(self):
        there_and_back = [
            [], [("rename_column", "person", "name", "n"), ("rename_column", "person", "n", "name")],
            [("rename_table", "person", "p"), ("rename_table", "p", "person")],
            [("reorder", "person", ("id", "age", "name")), ("reorder", "person", ("id", "name", "age"))],
        ]
        store = self.store(*there_and_back)
        for home in (0, 1, 2, 3, 4):
            go_home(store, home)
            self.writes(store, (home + 1) % 5, ("insert", "person", (10 + home, "x", home)),
                        ("set", "person", 1, "age", 60 + home))
            self.assertEqual(len(store.show(0)["person"]), 3 + home)
            for version in (1, 2, 3, 4):
                self.assertEqual(store.show(version), store.show(0))


class FaultsOf13Test(StoredCase):
    def test_full_behind_a_union(self):
        store = self.made({"a": PERSON, "b": PERSON})
        self.evolves(store, 0, [("union", "a", "b", only("age", "=", 0))], 1)
        for start in (0, 20):
            store.write(0, [("insert", "a", (key, None, 0)) for key in range(start, start + 20)])
        store.write(0, [("insert", "b", (key, None, 0)) for key in range(100, 120)])
        for home in (0, 1):
            go_home(store, home)
            self.refuses(store, RejectedError, (1, "full", "a", 119), "write", 0, [("insert", "b", (50, None, 0))])
            self.refuses(store, RejectedError, (1, "full", "a", 130), "write", 0, [("insert", "b", (130, None, 0))])
            self.refuses(store, RejectedError, (1, "double", "a", 3), "write", 0,
                         [("insert", "b", (5, None, 0)), ("insert", "b", (3, None, 0))])

    def test_full_behind_a_move(self):
        store = self.made({"a": described(COLUMNS), "b": described(COLUMNS), "c": MOVING["c"]})
        self.evolves(store, 0, [("move", "a", "b", only("size", ">", 9))], 1)
        for start in (0, 20):
            store.write(0, [("insert", "a", (key, None, 10, None)) for key in range(start, start + 20)])
        store.write(0, [("insert", "b", (key, None, 1, None)) for key in range(60, 80)])
        for home in (0, 1):
            go_home(store, home)
            self.refuses(store, RejectedError, (1, "full", "b", 79), "write", 0,
                         [("insert", "a", (41, None, 10, None))])
            self.refuses(store, RejectedError, (1, "full", "b", 99), "write", 0, [("insert", "b", (99, None, 1, None))])
        self.writes(store, 0, ("insert", "a", (41, None, 9, None)))


if __name__ == "__main__":
    unittest.main()
