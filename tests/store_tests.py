"""Points 39 to 41: the tests that each kind of store must pass. A test class below StoreCase takes them over."""

import copy

from tests.store_case import AL, BO, COLUMNS, GROWN, KEY, MOVING, PERSON, SCHEMA, SPLIT, view
from tests.support import described, only


class NewTests:
    def test_a_new_store(self):
        store = self.made(SCHEMA)
        self.assertEqual(store.tree.outline(), (1, [(0, -1, True, [])], SCHEMA))
        self.shows(store, {0: {"person": {}}})
        self.assertEqual(store.complements(0), [])
        store = self.made({})
        self.shows(store, {0: {}})

    def test_the_schema_is_copied(self):
        schema = copy.deepcopy(SCHEMA)
        store = self.made(schema)
        schema["person"]["columns"].clear()
        del schema["person"]
        self.assertEqual(store.tree.schema(0), SCHEMA)
        self.shows(store, {0: {"person": {}}})

    def test_what_is_handed_out_can_be_changed(self):
        store = self.store([SPLIT], [GROWN])
        before = copy.deepcopy(view(store))
        for version in (0, 1, 2):
            state = store.show(version)
            state["person"].clear()
            state.clear()
            for complement in store.complements(version):
                for entry in complement.values():
                    entry.clear()
                complement.clear()
            store.complements(version).append({})
        self.assertEqual(view(store), before)

    def test_show_asks_for_a_live_version(self):
        store = self.store([SPLIT], [])
        store.prune(0)
        self.assertEqual(store.tree.nodes(), [0, 1, 2])
        for version in (0, 3, -1):
            self.no_version(store, "missing", "show", version)


class EvolveTests:
    def test_the_state_is_carried(self):
        store = self.store()
        self.evolves(store, 0, [SPLIT], 1)
        left = {"person": {1: ("al b", 30), 2: (None, 7)}}
        middle = {"person": {1: ("al", "b", 30), 2: (None, None, 7)}}
        self.shows(store, {0: left, 1: middle})
        self.assertEqual(store.complements(1), [{"pairs": {1: ("al b", ("al", "b")), 2: (None, (None, None))}}])
        self.evolves(store, 1, [GROWN, ("drop_column", "person", "last", "x")], 2)
        right = {"person": {1: ("al", 30)}}
        self.shows(store, {0: left, 1: middle, 2: right})
        self.assertEqual(store.complements(2), [{"hidden": {2: (None, None, 7)}}, {"values": {1: "b"}}])
        self.evolves(store, 0, [], 3)
        self.shows(store, {0: left, 1: middle, 2: right, 3: left})
        self.assertEqual(store.complements(3), [])
        self.assertEqual(store.complements(0), [])
        self.assertEqual(store.tree.outline()[1], [
            (0, -1, True, []), (1, 0, True, [SPLIT]),
            (2, 1, True, [GROWN, ("drop_column", "person", "last", "x")]), (3, 0, True, []),
        ])

    def test_missing_and_full(self):
        store = self.store([], [SPLIT])
        store.prune(0)
        self.assertEqual(store.tree.nodes(), [0, 1, 2])
        bad = [("drop_table", "nowhere")]
        for parent in (0, 3, -1):
            self.no_version(store, "missing", "evolve", parent, bad)
        for number in range(3, 8):
            self.evolves(store, 1, [], number)
        self.no_version(store, "full", "evolve", 1, bad)
        self.no_version(store, "missing", "evolve", 0, bad)
        self.prunes(store, 7)
        self.evolves(store, 1, [], 8)

    def test_step_errors(self):
        store = self.store()
        self.no_step(store, "missing", 1, "evolve", 0, [GROWN, ("drop_table", "nowhere")])
        self.no_step(store, "long", 6, "evolve", 0, [("drop_table", "nowhere")] * 7)
        self.evolves(store, 0, [], 1)

    def test_a_lens_error_is_a_rejection(self):
        schema = {"a": PERSON, "b": PERSON}
        store = self.made(schema)
        store.write(0, [("insert", "a", (4, "x", 1)), ("insert", "a", (3, "x", 1)), ("insert", "b", (3, "y", 1)),
                        ("insert", "b", (4, "y", 1)), ("insert", "b", (1, "y", 1))])
        self.rejects(store, (1, "double", "a", 3), "evolve", 0, [("union", "a", "b", ())])
        self.evolves(store, 0, [], 1)
        self.rejects(store, (2, "double", "c", 3), "evolve", 1,
                     [("rename_table", "a", "c"), ("rename_table", "b", "a"), ("union", "c", "a", ())])
        # A step error comes before.
        self.no_step(store, "missing", 1, "evolve", 1, [("union", "a", "b", ()), ("drop_table", "b")])
        self.assertEqual(store.tree.next_number(), 2)

    def test_a_state_between_two_steps_that_is_not_sound(self):
        schema = {"a": PERSON, "b": PERSON}
        store = self.made(schema)
        for table, first in (("a", 0), ("b", 100)):
            for start in (first, first + 16):
                store.write(0, [("insert", table, (key, "x", key)) for key in range(start, start + 16)])
        union = ("union", "a", "b", only("age", "<", 100))
        self.rejects(store, (1, "full", "a", 128), "evolve", 0, [union, ("rename_table", "a", "c")])
        self.rejects(store, (1, "full", "a", 128), "evolve", 0, [union])
        self.rejects(store, (1, "full", "c", 128), "evolve", 0, [("rename_table", "a", "c"),
                                                               ("union", "c", "b", only("age", "<", 100))])
        store.write(0, [("delete", "b", key) for key in range(100, 104)])
        self.evolves(store, 0, [union, ("partition", "a", "b", only("age", "<", 100))], 1)
        self.assertEqual(store.show(1), store.show(0))

    def test_a_new_state_that_is_not_sound(self):
        """Rows that move to a table with other constraints may break each of them."""
        rows = [("insert", "a", (key, name, size, boss)) for key, name, size, boss in
                ((4, "x", 0, None), (3, "x", 0, None), (5, "y", 9, 1), (6, "z", 7, 8), (7, "z", 7, 9), (8, "y", 9, 1))]
        for chosen, code, key in (((4, 3), "check", 3), ((4,), "check", 4), ((5, 8), "unique", 8),
                                  ((6, 5), "reference", 6), ((7, 6, 8), "unique", 7), ((8, 7, 3, 4), "check", 3)):
            store = self.made(MOVING)
            store.write(0, rows + [("insert", "c", (1,))])
            clauses = tuple([(("id", "=", number),) for number in chosen])
            self.rejects(store, (1, code, "b", key), "evolve", 0, [("move", "a", "b", clauses)])
            self.evolves(store, 0, [("move", "a", "b", only("id", "=", 5))], 1)
            self.assertEqual(store.show(1)["b"], {5: ("y", 9, 1)})
            # The number is that of the version that would have been made.
            self.rejects(store, (2, code, "b", key), "evolve", 0, [("move", "a", "b", clauses)])


class WriteTests:
    def test_to_and_from_each_version(self):
        store = self.store([SPLIT], [GROWN])
        self.evolves(store, 1, [("convert", "person", "age", "text", True)], 3)
        self.writes(store, 3, ("insert", "person", (3, "cy", "d e", "x")), ("set", "person", 1, "age", "31"))
        self.shows(store, {
            0: {"person": {1: ("al b", 31), 2: (None, 7), 3: ("cy d e", 0)}},
            1: {"person": {1: ("al", "b", 31), 2: (None, None, 7), 3: ("cy", "d e", 0)}},
            2: {"person": {1: ("al b", 31)}},
            3: {"person": {1: ("al", "b", "31"), 2: (None, None, "7"), 3: ("cy", "d e", "x")}},
        })
        self.assertEqual(store.complements(2), [{"hidden": {2: (None, 7), 3: ("cy d e", 0)}}])
        self.assertEqual(store.complements(3), [{"pairs": {1: (31, "31"), 2: (7, "7"), 3: (0, "x")}}])
        self.writes(store, 2, ("delete", "person", 1), ("insert", "person", (5, "f g", 18)))
        self.shows(store, {
            0: {"person": {2: (None, 7), 3: ("cy d e", 0), 5: ("f g", 18)}},
            1: {"person": {2: (None, None, 7), 3: ("cy", "d e", 0), 5: ("f", "g", 18)}},
            2: {"person": {5: ("f g", 18)}},
            3: {"person": {2: (None, None, "7"), 3: ("cy", "d e", "x"), 5: ("f", "g", "18")}},
        })
        self.writes(store, 1, ("set", "person", 2, "age", 20))
        self.assertEqual(store.show(2), {"person": {2: (None, 20), 5: ("f g", 18)}})
        self.assertEqual(store.show(3)["person"][2], (None, None, "20"))

    def test_the_example_of_point_24(self):
        store = self.store([SPLIT])
        self.writes(store, 0, ("insert", "person", (3, "ada b lovelace", 36)))
        self.assertEqual(store.show(1)["person"][3], ("ada", "b lovelace", 36))
        self.writes(store, 1, ("replace", "person", (3, "ada b", "lovelace", 36)))
        self.assertEqual(store.show(0)["person"][3], ("ada b lovelace", 36))
        self.writes(store, 0, ("set", "person", 3, "age", 37))
        self.assertEqual(store.show(1)["person"][3], ("ada b", "lovelace", 37))
        self.writes(store, 0, ("set", "person", 3, "name", "ada lovelace"))
        self.assertEqual(store.show(1)["person"][3], ("ada", "lovelace", 37))

    def test_the_example_of_point_29(self):
        orders = described([KEY, ("customer", "text", False), ("city", "text", False)])
        store = self.made({"orders": orders})
        self.writes(store, 0, ("insert", "orders", (1, "al", "ulm")), ("insert", "orders", (2, "bo", "bonn")),
                    ("insert", "orders", (3, "bo", "bonn")))
        self.evolves(store, 0, [("extract", "orders", "customer", ("city",), "customers")], 1)
        self.assertEqual(store.show(1)["customers"], {"al": ("ulm",), "bo": ("bonn",)})
        self.writes(store, 0, ("set", "orders", 1, "city", "trier"))
        self.assertEqual(store.show(1)["customers"], {"al": ("trier",), "bo": ("bonn",)})
        self.writes(store, 0, ("set", "orders", 2, "city", "trier"))
        self.assertEqual(store.show(1)["customers"], {"al": ("trier",), "bo": ("bonn",)})
        self.assertEqual(store.complements(1)[0]["apart"], {2: ("bo", ("trier",))})
        self.writes(store, 1, ("set", "customers", "bo", "city", "jena"))
        self.assertEqual(store.show(0)["orders"], {1: ("al", "trier"), 2: ("bo", "trier"), 3: ("bo", "jena")})

    def test_no_edits(self):
        store = self.store([SPLIT], [GROWN])
        before = copy.deepcopy(view(store))
        for version in (0, 1, 2):
            self.writes(store, version)
        self.assertEqual(view(store), before)

    def test_missing(self):
        store = self.store([SPLIT], [])
        store.prune(0)
        for version in (0, 3, -1):
            self.no_version(store, "missing", "write", version, [])
            self.no_version(store, "missing", "write", version, [("delete", "nowhere", 1)] * 25)

    def test_edit_errors(self):
        store = self.store([SPLIT])
        self.no_edit(store, "table", 0, 0, ("delete", "nowhere", 1))
        self.no_edit(store, "key", 1, 1, ("delete", "person", 1), ("delete", "person", 1))
        self.no_edit(store, "row", 1, 1, ("delete", "person", 1), AL)
        self.no_edit(store, "long", 24, 0, *[AL] * 25)

    def test_a_fault_of_the_version_itself(self):
        store = self.store([GROWN], [("add_unique", "person", "name")])
        self.no_write(store, (1, "check", "person", 5), 1, ("insert", "person", (6, "x", 1)),
                      ("insert", "person", (5, "x", 1)))
        self.no_write(store, (1, "check", "person", 1), 1, ("set", "person", 1, "age", 17))
        self.no_write(store, (2, "unique", "person", 3), 2, ("insert", "person", (3, "al b", 1)))
        # An edit that fails comes before.
        self.no_edit(store, "key", 1, 1, ("set", "person", 1, "age", 17), ("delete", "person", 9))
        self.writes(store, 1, ("insert", "person", (6, "x", 1)), ("set", "person", 6, "age", 18))

    def test_a_row_that_is_hidden(self):
        store = self.store([GROWN], [("add_unique", "person", "name")])
        self.no_write(store, (0, "hidden", "person", 2), 1, ("insert", "person", (2, "x", 18)))
        self.writes(store, 0, ("insert", "person", (3, "al b", 40)))
        self.assertEqual(store.show(2)["person"], {1: ("al b", 30), 2: (None, 7)})
        self.no_write(store, (0, "hidden", "person", 3), 2, ("insert", "person", (3, "z", 1)))
        # The version's own fault comes before.
        self.no_write(store, (1, "check", "person", 2), 1, ("insert", "person", (2, "x", 17)))

    def test_a_row_of_another_table_that_is_hidden(self):
        store = self.store([("decompose", "person", "ages", ("age",))])
        self.writes(store, 1, ("delete", "person", 2))
        self.shows(store, {0: {"person": {1: ("al b", 30)}},
                           1: {"person": {1: ("al b",)}, "ages": {1: (30,), 2: (7,)}}})
        self.assertEqual(store.complements(1), [{"missing": {}, "extra": {2: (7,)}}])
        self.no_write(store, (1, "hidden", "person", 2), 0, BO)

    def test_a_fault_of_a_far_node(self):
        """The rows of two tables are those of one at the far node, whose number is limited."""
        store = self.made({"person": PERSON, "other": PERSON})
        union = ("union", "person", "other", only("age", "=", 0))
        self.evolves(store, 0, [union], 1)
        self.evolves(store, 1, [], 2)
        self.evolves(store, 0, [], 3)
        for start in (0, 20):
            self.writes(store, 3, *[("insert", "person", (key, None, 0)) for key in range(start, start + 20)])
            self.writes(store, 3, *[("insert", "other", (key, None, 1)) for key in range(start + 60, start + 70)])
        self.assertEqual(len(store.show(2)["person"]), 60)
        self.no_write(store, (1, "full", "person", 89), 3, ("insert", "person", (50, None, 0)))
        self.no_write(store, (1, "full", "person", 99), 0, ("insert", "other", (99, None, 0)))
        self.no_write(store, (1, "double", "person", 62), 0, ("insert", "person", (63, None, 0)),
                      ("insert", "person", (62, None, 0)))
        self.no_write(store, (2, "full", "person", 99), 2, ("insert", "person", (99, None, 0)))
        self.writes(store, 2, ("delete", "person", 0), ("insert", "person", (99, None, 0)))

    def test_each_code_of_a_far_node(self):
        """Big rows move to a table with constraints at version 1, and at 2 below it."""
        store = self.made(MOVING)
        self.evolves(store, 0, [("move", "a", "b", ((("size", ">", 9),), (("size", "<", 0),)))], 1)
        self.evolves(store, 1, [], 2)
        self.evolves(store, 0, [], 3)
        self.writes(store, 0, ("insert", "c", (1,)), ("insert", "a", (5, "x", 5, None)),
                    ("insert", "a", (6, "y", 10, 1)))
        self.assertEqual(store.show(2)["b"], {6: ("y", 10, 1)})
        for version in (0, 3):
            self.no_write(store, (1, "check", "b", 8), version, ("insert", "a", (8, "y", -1, 9)))
            self.no_write(store, (1, "unique", "b", 8), version, ("insert", "a", (8, "y", 11, 9)))
            self.no_write(store, (1, "unique", "b", 6), version, ("insert", "a", (4, "y", 11, None)))
            self.no_write(store, (1, "reference", "b", 5), version, ("replace", "a", (5, "x", 11, 9)))
            self.no_write(store, (1, "reference", "b", 6), version, ("delete", "c", 1))
            self.no_write(store, (1, "check", "b", 5), version, ("set", "a", 5, "size", -1))
        for start in (100, 120):
            self.writes(store, 3, *[("insert", "a", (key, None, 10, None)) for key in range(start, start + 20)])
        self.writes(store, 2, *[("insert", "b", (key, None, 1, None)) for key in range(200, 219)])
        self.assertEqual(len(store.show(2)["b"]), 60)
        self.no_write(store, (1, "full", "b", 218), 0, ("insert", "a", (9, None, 10, None)))
        self.no_write(store, (2, "full", "b", 219), 2, ("insert", "b", (219, None, 1, None)))

    def test_faults_that_come_from_the_complement(self):
        """Rows that the version of the write does not show count at the far nodes that show them."""
        store = self.made(SCHEMA)
        self.evolves(store, 0, [GROWN], 1)
        self.evolves(store, 1, [("add_unique", "person", "name")], 2)
        self.writes(store, 1, ("insert", "person", (1, "x", 20)), ("insert", "person", (2, "x", 21)))
        self.writes(store, 0, ("insert", "person", (3, "y", 1)))
        many = [("insert", "person", (key, None, 1)) for key in range(4, 64)]
        for start in (0, 20):
            self.writes(store, 0, *many[start:start + 20])
        self.writes(store, 0, *many[40:57])
        self.assertEqual(len(store.show(0)["person"]), 60)
        self.assertEqual(len(store.show(2)["person"]), 1)
        self.no_write(store, (0, "full", "person", 99), 1, ("insert", "person", (99, None, 20)))
        self.no_write(store, (0, "full", "person", 99), 2, ("insert", "person", (99, None, 20)))
        self.no_write(store, (1, "hidden", "person", 2), 2, ("insert", "person", (2, "z", 20)))
        self.no_write(store, (0, "hidden", "person", 3), 2, ("insert", "person", (3, "z", 20)))

    def test_a_state_between_two_steps_that_is_not_sound(self):
        """The error has the number of the far node, and the names that the tables have between the steps."""
        store = self.made({"a": described(COLUMNS), "b": MOVING["b"], "c": MOVING["c"]})
        big = only("size", ">", 9)
        self.evolves(store, 0, [("move", "a", "b", big), ("rename_table", "b", "d")], 1)
        self.evolves(store, 0, [("rename_table", "b", "e"), ("move", "a", "e", big), ("rename_table", "e", "d")], 2)
        self.no_write(store, (1, "reference", "b", 4), 0, ("insert", "a", (4, None, 10, 7)))
        self.prunes(store, 1)
        self.no_write(store, (2, "reference", "e", 4), 0, ("insert", "a", (4, None, 10, 7)))
        self.writes(store, 0, ("insert", "a", (4, None, 9, 7)))

    def test_a_reference_that_leads_nowhere_at_a_far_node(self):
        columns = [KEY, ("to", "int", True)]
        schema = {"a": described(columns), "b": described([KEY, ("n", "int", False)])}
        store = self.made(schema)
        self.evolves(store, 0, [("add_check", "b", only("n", ">", 0)), ("add_reference", "a", "to", "b")], 1)
        self.writes(store, 0, ("insert", "b", (1, 5)), ("insert", "b", (2, 0)), ("insert", "a", (7, 1)),
                    ("insert", "a", (8, 2)))
        self.assertEqual(store.show(1), {"a": {7: (1,)}, "b": {1: (5,)}})
        self.no_write(store, (1, "reference", "a", 7), 1, ("delete", "b", 1))
        self.no_write(store, (0, "hidden", "b", 2), 1, ("insert", "b", (2, 9)))
        self.no_write(store, (0, "hidden", "a", 8), 1, ("insert", "a", (8, 1)))
        # At the root the row that is led to may vanish: at the other version, the row that led to it is hidden then.
        self.writes(store, 0, ("delete", "b", 1))
        self.shows(store, {0: {"a": {7: (1,), 8: (2,)}, "b": {2: (0,)}}, 1: {"a": {}, "b": {}}})

    def test_the_walk_tells_which_version_rejects(self):
        """Two versions would reject: the one that the walk reaches first counts."""
        schema = {"a": PERSON, "b": PERSON}
        store = self.made(schema)
        union = ("union", "a", "b", ())
        self.evolves(store, 0, [("rename_table", "a", "aa"), ("union", "aa", "b", ())], 1)
        self.evolves(store, 0, [], 2)
        self.evolves(store, 2, [union], 3)
        self.evolves(store, 0, [union], 4)
        row = (5, "x", 1)
        edits = [("insert", "a", row), ("insert", "b", row)]
        self.no_write(store, (1, "double", "aa", 5), 0, *edits)
        self.no_write(store, (3, "double", "a", 5), 2, *edits)
        self.prunes(store, 3)
        self.no_write(store, (1, "double", "aa", 5), 2, *edits)
        self.prunes(store, 1)
        self.no_write(store, (4, "double", "a", 5), 2, *edits)
        self.prunes(store, 4)
        self.writes(store, 2, *edits)

    def test_through_pruned_nodes(self):
        store = self.store([SPLIT], [GROWN])
        self.evolves(store, 2, [], 3)
        self.prunes(store, 0)
        self.prunes(store, 2)
        self.assertEqual(store.tree.nodes(), [0, 1, 2, 3])
        self.writes(store, 1, ("set", "person", 2, "age", 18), ("insert", "person", (4, "x", "y", 3)))
        self.shows(store, {1: {"person": {1: ("al", "b", 30), 2: (None, None, 18), 4: ("x", "y", 3)}},
                           3: {"person": {1: ("al b", 30), 2: (None, 18)}}})
        self.writes(store, 3, ("insert", "person", (9, "q r", 99)))
        self.assertEqual(store.show(1)["person"][9], ("q", "r", 99))
        self.no_write(store, (0, "hidden", "person", 4), 3, ("insert", "person", (4, "q r", 99)))
        self.no_write(store, (3, "check", "person", 1), 3, ("set", "person", 1, "age", 2))
