"""Points 45 to 47: the image of a store, and the store that is made from it."""

import copy
import unittest

from lenstree.errors import RejectedError, StepError, VersionError
from lenstree.restore import stored_from
from lenstree.stored import Stored
from tests.homes import go_home
from tests.store_case import GROWN, KEY, PERSON, SCHEMA, SPLIT, StoreCase, view
from tests.support import containers, wreck
from tests.twins import is_in_step


class ImageCase(StoreCase):
    def made(self, schema):
        return Stored(schema)

    def restored(self, store):
        """Return the store made from the image of another one; see that the image is equal and nothing is shared."""
        image = store.image()
        before = copy.deepcopy(image)
        result = stored_from(image)
        self.assertIs(type(result), Stored)
        self.assertEqual(image, before)
        self.assertEqual(result.image(), before)
        self.assertEqual(view(result), view(store))
        self.assertEqual((result.home(), result.kept(), result.move_view()),
                         (store.home(), store.kept(), store.move_view()))
        wreck(image)
        self.assertEqual((result.image(), store.image()), (before, before))
        return result

    def kinds(self, store):
        """See of which kinds the parts of an image are."""
        outline, home, kept, complements, move = store.image()
        self.assertIs(type(store.image()), tuple)
        self.assertEqual([type(part) for part in (outline, home, kept, complements)], [tuple, int, dict, list])
        self.assertEqual([type(part) for part in complements], [tuple] * len(complements))
        self.assertEqual([type(part) for _, part in complements], [list] * len(complements))
        self.assertEqual(type(move), tuple if store.move_view() is not None else type(None))


class WholeImageTest(ImageCase):
    def test_a_new_store(self):
        self.assertEqual(Stored({}).image(), ((1, [(0, -1, True, [])], {}), 0, {}, [], None))
        self.assertEqual(Stored(SCHEMA).image(), ((1, [(0, -1, True, [])], SCHEMA), 0, {"person": {}}, [], None))
        self.restored(Stored({}))
        self.restored(Stored(SCHEMA))

    def test_without_a_move(self):
        store = self.store([SPLIT], [GROWN])
        self.evolves(store, 1, [], 3)
        go_home(store, 1)
        self.assertEqual(store.image(), (
            (4, [(0, -1, True, []), (1, 0, True, [SPLIT]), (2, 0, True, [GROWN]), (3, 1, True, [])], SCHEMA),
            1,
            {"person": {1: ("al", "b", 30), 2: (None, None, 7)}},
            [(1, [{"pairs": {1: ("al b", ("al", "b")), 2: (None, (None, None))}}]), (2, [{"hidden": {2: (None, 7)}}]),
             (3, [])],
            None,
        ))
        self.kinds(store)
        self.restored(store)

    def test_with_a_move(self):
        store = self.store([SPLIT], [GROWN])
        store.begin_move(2)
        self.assertEqual(store.image()[4], (2, None, {"person": {}}))
        self.kinds(store)
        self.restored(store)
        store.advance(1)
        self.assertEqual(store.image(), (
            (3, [(0, -1, True, []), (1, 0, True, [SPLIT]), (2, 0, True, [GROWN])], SCHEMA),
            0,
            {"person": {1: ("al b", 30), 2: (None, 7)}},
            [(1, [{"pairs": {1: ("al b", ("al", "b")), 2: (None, (None, None))}}]), (2, [{"hidden": {2: (None, 7)}}])],
            (2, ("person", 1), {"person": {1: ("al b", 30)}}),
        ))
        self.kinds(store)
        self.restored(store)

    def test_with_pruned_nodes(self):
        store = self.store([SPLIT], [GROWN])
        go_home(store, 2)
        store.prune(0)
        self.assertEqual(store.image()[0][1], [(0, -1, False, []), (1, 0, True, [SPLIT]), (2, 0, True, [GROWN])])
        self.assertEqual([node for node, _ in store.image()[3]], [1, 2])
        restored = self.restored(store)
        self.assertEqual(restored.tree.numbers(), [1, 2])
        self.no_version(restored, "missing", "show", 0)

    def test_with_a_root_that_was_pruned_and_removed(self):
        store = self.store([("rename_table", "person", "folk")])
        self.evolves(store, 1, [SPLIT[:1] + ("folk",) + SPLIT[2:]], 2)
        self.evolves(store, 1, [], 3)
        go_home(store, 2)
        store.prune(0)
        self.assertEqual(store.image(), (
            (4, [(1, -1, True, []), (2, 1, True, [SPLIT[:1] + ("folk",) + SPLIT[2:]]), (3, 1, True, [])],
             {"folk": PERSON}),
            2,
            {"folk": {1: ("al", "b", 30), 2: (None, None, 7)}},
            [(2, [{"pairs": {1: ("al b", ("al", "b")), 2: (None, (None, None))}}]), (3, [])],
            None,
        ))
        restored = self.restored(store)
        self.evolves(restored, 2, [], 4)
        self.assertEqual(restored.tree.path(3, 4), [3, 1, 2, 4])

    def test_a_parent_with_a_greater_number(self):
        """After a rebase a node may stand below one that was made later."""
        store = self.store([("rename_column", "person", "age", "years")], [SPLIT])
        self.evolves(store, 1, [("add_check", "person", ((),))], 3)
        self.rebases(store, 1, 2)
        self.assertEqual(store.tree.path(0, 3), [0, 2, 1, 3])
        restored = self.restored(store)
        self.assertEqual([column[0] for column in restored.tree.schema(3)["person"]["columns"]],
                         ["id", "first", "last", "years"])

    def test_numbers_that_were_given(self):
        store = self.store([], [])
        store.prune(2)
        restored = self.restored(store)
        self.assertEqual(restored.tree.next_number(), 3)
        self.evolves(restored, 0, [], 3)


class GoesOnTest(ImageCase):
    def calls(self, store):
        """Do several calls and return what comes of each, and the image behind it."""
        found = []
        for method, *arguments in (
            ("write", 1, [("set", "person", 1, "first", "q")]), ("advance", 1),
            ("write", 2, [("insert", "person", (2, "x", 40))]), ("evolve", 1, [("drop_column", "person", "last", "z")]),
            ("write", 0, [("insert", "person", (0, "r s", 44)), ("delete", "person", 2)]), ("begin_move", 2),
            ("rebase", 3, 0), ("prune", 1), ("advance", 1), ("advance", 9), ("prune", 0), ("rebase", 3, 2),
            ("begin_move", 3), ("stop_move",), ("prune", 2),
        ):
            try:
                found.append(getattr(store, method)(*arguments))
            except (VersionError, RejectedError, StepError) as error:
                found.append((type(error), vars(error)))
            found.append(store.image())
            is_in_step(self, store)
        return found

    def test_it_goes_on_in_the_same_way(self):
        def fresh():
            store = self.store([SPLIT], [GROWN])
            store.begin_move(1)
            store.advance(1)
            return store

        expected = self.calls(fresh())
        self.assertEqual(self.calls(self.restored(fresh())), expected)
        self.assertEqual(self.calls(self.restored(self.restored(fresh()))), expected)
        self.assertIn((VersionError, {"code": "moving"}), expected)
        self.assertIn(True, expected)

    def test_neither_changes_the_other(self):
        store = self.store([SPLIT], [GROWN])
        store.begin_move(1)
        store.advance(1)
        image = store.image()
        held = copy.deepcopy(image)
        restored = stored_from(image)
        self.calls(restored)
        self.assertEqual((store.image(), image), (held, held))
        again = stored_from(image)
        self.calls(store)
        self.assertEqual((again.image(), image), (held, held))

    def test_nothing_is_shared(self):
        store = self.store([SPLIT])
        store.begin_move(1)
        store.advance(1)
        image = store.image()
        restored = stored_from(image)
        seen = [image, store.image(), restored.image(), restored.image(), view(restored), restored.kept()]
        for place, one in enumerate(seen):
            for other in seen[place + 1:]:
                self.assertEqual(containers(one) & containers(other), set())

    def test_what_is_handed_out_can_be_changed(self):
        store = self.store([SPLIT], [("create_table", "new", (KEY,))])
        store.begin_move(2)
        before = copy.deepcopy(store.image())
        restored = stored_from(store.image())
        for one in (store, restored):
            wreck(one.image())
            wreck(one.kept())
            wreck(one.move_view())
            wreck(one.complements(1))
            self.assertEqual(one.image(), before)


if __name__ == "__main__":
    unittest.main()
