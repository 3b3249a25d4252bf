"""Points 46 and 47: moves of the home, which go on while programs read and write."""

import copy
import random
import unittest

from lenstree.errors import RejectedError, VersionError
from lenstree.model import Model
from lenstree.stored import Stored
from tests.homes import go_home
from tests.store_case import AL, BO, GROWN, KEY, PERSON, SCHEMA, SPLIT, StoreCase, view
from tests.store_runs import START, any_edits, any_script, filled
from tests.support import described, wreck
from tests.twins import advances, copied, is_in_step, outcome

WORD = described([("word", "text", False), ("size", "int", True)])
TWO = {"beta": PERSON, "alfa": WORD, "empty": described([KEY])}


class MoveCase(StoreCase):
    def made(self, schema):
        return Stored(schema)

    def two(self, *scripts):
        """Return a store with rows in two tables whose keys are of different kinds."""
        store = Stored(TWO)
        store.write(0, [("insert", "beta", (10, "x", 1)), ("insert", "beta", (-5, "y", 2)),
                        ("insert", "beta", (9, None, 3)), ("insert", "alfa", ("b", 1)), ("insert", "alfa", ("B", 2)),
                        ("insert", "alfa", ("a", None))])
        for script in scripts:
            store.evolve(0, script)
        return store

    def refuses(self, store, code, method, *arguments):
        before = copy.deepcopy(store.image())
        with self.assertRaises(VersionError) as caught:
            getattr(store, method)(*arguments)
        self.assertEqual(caught.exception.code, code)
        self.assertEqual(store.image(), before)

    def view_is(self, store, goal, mark, copy_of_goal):
        self.assertEqual(store.move_view(), (goal, mark, copy_of_goal))
        self.assertIs(type(store.move_view()), tuple)
        is_in_step(self, store)


class BeginTest(MoveCase):
    def test_the_beginning(self):
        store = self.two([("rename_table", "beta", "gamma")])
        self.assertIsNone(store.move_view())
        self.assertIsNone(store.begin_move(1))
        self.view_is(store, 1, None, {"alfa": {}, "gamma": {}, "empty": {}})
        self.assertEqual(store.home(), 0)
        self.assertEqual(store.kept(), store.show(0))

    def test_each_code_and_their_order(self):
        store = self.two([], [], [])
        store.evolve(1, [])
        store.prune(1)
        for number in (1, 9, -1):
            self.refuses(store, "missing", "begin_move", number)
        self.refuses(store, "home", "begin_move", 0)
        store.begin_move(2)
        for number in (1, 9, -1):
            self.refuses(store, "missing", "begin_move", number)
        self.refuses(store, "home", "begin_move", 0)
        self.refuses(store, "moving", "begin_move", 2)
        self.refuses(store, "moving", "begin_move", 3)
        store.stop_move()
        store.begin_move(3)
        self.view_is(store, 3, None, {"alfa": {}, "beta": {}, "empty": {}})

    def test_no_move_is_going_on(self):
        store = self.two([])
        self.refuses(store, "moving", "advance", 1)
        self.refuses(store, "moving", "stop_move")
        go_home(store, 1)
        self.refuses(store, "moving", "advance", 1000)
        self.refuses(store, "moving", "stop_move")
        store.begin_move(0)
        store.stop_move()
        self.refuses(store, "moving", "advance", 1)
        self.refuses(store, "moving", "stop_move")


class AdvanceTest(MoveCase):
    def test_over_tables_and_both_kinds_of_keys(self):
        store = self.two([("reorder", "beta", ("id", "age", "name"))])
        store.begin_move(1)
        self.assertIs(store.advance(2), False)
        self.view_is(store, 1, ("alfa", "a"), {"alfa": {"B": (2,), "a": (None,)}, "beta": {}, "empty": {}})
        self.assertIs(store.advance(2), False)
        self.view_is(store, 1, ("beta", -5), {
            "alfa": {"B": (2,), "a": (None,), "b": (1,)}, "beta": {-5: (2, "y")}, "empty": {}})
        self.assertEqual(store.home(), 0)
        self.assertIs(store.advance(2), False)
        self.view_is(store, 1, ("beta", 10), store.show(1))
        self.assertEqual(store.home(), 0)
        self.assertIs(store.advance(1), True)
        self.assertEqual((store.home(), store.move_view()), (1, None))
        self.assertEqual(store.kept(), {
            "alfa": {"B": (2,), "a": (None,), "b": (1,)}, "beta": {-5: (2, "y"), 9: (3, None), 10: (1, "x")},
            "empty": {}})

    def test_counts_below_equal_to_and_above_what_is_left(self):
        for counts, ends in (((5,), False), ((6,), False), ((7,), True), ((1000,), True), ((6, 1), True),
                             ((3, 3), False), ((3, 4), True), ((5, 1), False), ((5, 2), True), ((1, 1, 1), False)):
            store = self.two([GROWN[:1] + ("beta",) + GROWN[2:]], [])
            store.begin_move(2)
            with self.subTest(counts=counts):
                for count in counts[:-1]:
                    self.assertFalse(advances(self, store, count))
                self.assertIs(advances(self, store, counts[-1]), ends)
                self.assertEqual(store.home(), 2 if ends else 0)

    def test_no_rows_at_all(self):
        store = Stored(TWO)
        store.evolve(0, [])
        store.begin_move(1)
        self.assertIs(store.advance(1), True)
        self.assertEqual((store.home(), store.kept()), (1, {"alfa": {}, "beta": {}, "empty": {}}))
        store = Stored({})
        store.evolve(0, [])
        store.begin_move(1)
        self.assertIs(store.advance(1), True)
        self.assertEqual((store.home(), store.kept(), store.move_view()), (1, {}, None))

    def test_the_mark_stays_where_its_row_vanishes(self):
        store = self.two([])
        store.begin_move(1)
        store.advance(3)
        self.view_is(store, 1, ("alfa", "b"), {"alfa": {"B": (2,), "a": (None,), "b": (1,)}, "beta": {}, "empty": {}})
        store.write(0, [("delete", "alfa", "b"), ("delete", "alfa", "B")])
        self.view_is(store, 1, ("alfa", "b"), {"alfa": {"a": (None,)}, "beta": {}, "empty": {}})
        store.write(1, [("delete", "beta", key) for key in (10, -5, 9)])
        self.view_is(store, 1, ("alfa", "b"), {"alfa": {"a": (None,)}, "beta": {}, "empty": {}})
        self.assertIs(store.advance(1), True)
        self.assertEqual((store.home(), store.kept()), (1, {"alfa": {"a": (None,)}, "beta": {}, "empty": {}}))

    def test_the_home_and_back(self):
        store = self.two([("drop_table", "alfa")], [("drop_column", "beta", "name", None)])
        before = view(store)
        for version in (1, 2, 0, 2, 1, 0):
            store.begin_move(version)
            while not advances(self, store, 2):
                pass
            self.assertEqual(view(store), before)
            self.assertEqual(store.home(), version)

    def test_stop_move(self):
        store = self.two([], [])
        store.begin_move(1)
        store.advance(4)
        self.assertIsNone(store.stop_move())
        self.assertEqual((store.home(), store.move_view()), (0, None))
        self.assertEqual(store.kept(), store.show(0))
        store.begin_move(1)
        self.view_is(store, 1, None, {"alfa": {}, "beta": {}, "empty": {}})
        self.assertEqual(store.advance(7), True)
        store.begin_move(2)
        store.stop_move()
        self.assertEqual(store.home(), 1)


class StepTest(MoveCase):
    """The copy is kept in step with what others write."""

    def moved(self, count):
        store = self.store([SPLIT], [("reorder", "person", ("id", "age", "name"))])
        store.write(0, [("insert", "person", (5, "e f", 50)), ("insert", "person", (9, "i j", 90))])
        store.begin_move(1)
        store.advance(count)
        return store

    def test_rows_that_appear_change_and_vanish_behind_the_mark(self):
        for version in (0, 1, 2):
            store = self.moved(3)
            self.assertEqual(store.move_view()[1], ("person", 5))
            if version == 1:
                store.write(1, [("insert", "person", (3, "c", "d", 1)), ("set", "person", 2, "age", 8),
                                ("delete", "person", 1), ("replace", "person", (5, "E", "F", 5))])
            else:
                store.write(version, [("set", "person", 2, "age", 8), ("delete", "person", 1),
                                      ("set", "person", 5, "name", "E F"), ("set", "person", 5, "age", 5)])
                row = (3, "c d", 1) if version == 0 else (3, 1, "c d")
                store.write(version, [("insert", "person", row)])
            self.view_is(store, 1, ("person", 5), {
                "person": {2: (None, None, 8), 3: ("c", "d", 1), 5: ("E", "F", 5)}})

    def test_rows_that_appear_change_and_vanish_ahead_of_the_mark(self):
        for version in (0, 2):
            store = self.moved(1)
            row = (7, "g h", 1) if version == 0 else (7, 1, "g h")
            store.write(version, [("set", "person", 2, "age", 8), ("delete", "person", 5), ("insert", "person", row)])
            self.view_is(store, 1, ("person", 1), {"person": {1: ("al", "b", 30)}})
            self.assertFalse(advances(self, store, 1))
            self.view_is(store, 1, ("person", 2), {"person": {1: ("al", "b", 30), 2: (None, None, 8)}})
            self.assertFalse(advances(self, store, 2))
            self.assertTrue(advances(self, store, 1))
            self.assertEqual(store.kept(), {"person": {1: ("al", "b", 30), 2: (None, None, 8), 7: ("g", "h", 1),
                                                       9: ("i", "j", 90)}})

    def test_tables_ahead_of_the_mark_and_behind_it(self):
        store = self.two([], [])
        store.begin_move(1)
        store.advance(4)
        self.assertEqual(store.move_view()[1], ("beta", -5))
        store.write(2, [("insert", "alfa", ("zz", 5)), ("insert", "empty", (-100,)), ("insert", "beta", (-6, "n", 1)),
                        ("insert", "beta", (-4, "n", 1))])
        self.view_is(store, 1, ("beta", -5), {
            "alfa": {"B": (2,), "a": (None,), "b": (1,), "zz": (5,)}, "beta": {-5: ("y", 2), -6: ("n", 1)},
            "empty": {}})

    def test_rows_that_only_the_goal_loses(self):
        """A row goes to another table of the goal, or is hidden there, while the home keeps it."""
        store = self.two([("add_check", "beta", ((("age", ">", 1),),)), ("partition", "beta", "gone", ())])
        store.begin_move(1)
        store.advance(5)
        self.assertEqual(store.move_view()[1], ("gone", 9))
        self.assertEqual(store.move_view()[2]["beta"], {})
        self.assertEqual(store.show(1)["gone"], {-5: ("y", 2), 9: (None, 3)})
        store.write(0, [("set", "beta", -5, "age", 0)])
        is_in_step(self, store)
        self.assertEqual(store.show(1)["gone"], {9: (None, 3)})
        store.write(0, [("set", "beta", -5, "age", 7), ("set", "beta", 10, "age", 7)])
        is_in_step(self, store)
        self.assertEqual(sorted(store.show(1)["gone"]), [-5, 9, 10])

    def test_a_write_ahead_of_the_first_row_that_is_copied(self):
        store = self.store([SPLIT])
        store.begin_move(1)
        store.write(0, [("insert", "person", (0, "z", 0)), ("delete", "person", 1)])
        self.view_is(store, 1, None, {"person": {}})
        self.assertTrue(store.advance(3))
        self.assertEqual(store.kept(), {"person": {0: ("z", "", 0), 2: (None, None, 7)}})

    def test_a_write_that_is_rejected_leaves_the_copy(self):
        store = self.store([GROWN])
        store.begin_move(1)
        store.advance(1)
        before = copy.deepcopy(store.image())
        with self.assertRaises(RejectedError):
            store.write(1, [("set", "person", 1, "age", 3)])
        with self.assertRaises(RejectedError):
            store.write(1, [("set", "person", 1, "age", 40), ("insert", "person", (2, "x", 20))])
        self.assertEqual(store.image(), before)

    def test_the_end_has_what_was_written_meanwhile(self):
        store = self.moved(2)
        store.write(2, [("set", "person", 1, "name", "q r s"), ("set", "person", 9, "name", "t u v")])
        store.write(1, [("set", "person", 1, "first", "q r"), ("set", "person", 1, "last", "s")])
        while not advances(self, store, 1):
            pass
        self.assertEqual(store.kept()["person"], {1: ("q r", "s", 30), 2: (None, None, 7), 5: ("e", "f", 50),
                                                  9: ("t", "u v", 90)})
        self.assertEqual(store.show(0)["person"][1], ("q r s", 30))


class MeanwhileTest(MoveCase):
    """Other calls while a move is going on."""

    def test_evolve(self):
        store = self.store([SPLIT])
        store.begin_move(1)
        store.advance(1)
        self.evolves(store, 0, [GROWN], 2)
        self.evolves(store, 1, [("drop_column", "person", "last", "x")], 3)
        self.view_is(store, 1, ("person", 1), {"person": {1: ("al", "b", 30)}})
        self.writes(store, 3, ("set", "person", 1, "first", "z"))
        self.view_is(store, 1, ("person", 1), {"person": {1: ("z", "b", 30)}})
        self.assertTrue(advances(self, store, 2))
        self.assertEqual(store.show(2), {"person": {1: ("z b", 30)}})
        self.assertEqual(store.show(3), {"person": {1: ("z", 30), 2: (None, 7)}})

    def test_prune(self):
        store = self.store([SPLIT], [GROWN])
        self.evolves(store, 1, [], 3)
        self.evolves(store, 3, [("rename_column", "person", "last", "sur")], 4)
        store.begin_move(4)
        store.advance(1)
        before = store.move_view()
        self.prunes(store, 2)
        self.prunes(store, 1)
        self.prunes(store, 3)
        self.assertEqual(store.tree.nodes(), [0, 1, 3, 4])
        self.assertEqual(store.move_view(), before)
        self.writes(store, 0, ("set", "person", 1, "age", 1), ("set", "person", 2, "age", 2))
        self.view_is(store, 4, ("person", 1), {"person": {1: ("al", "b", 1)}})
        self.assertTrue(advances(self, store, 9))
        self.prunes(store, 0)
        self.assertEqual((store.tree.nodes(), store.complements(4)), ([4], []))
        self.shows(store, {4: {"person": {1: ("al", "b", 1), 2: (None, None, 2)}}})

    def test_no_other_call_shows_it(self):
        store = self.store([SPLIT], [GROWN])
        before = view(store)
        seen = [(store.home(), store.kept())]
        store.begin_move(2)
        for _ in range(2):
            self.assertEqual((view(store), [(store.home(), store.kept())]), (before, seen))
            store.advance(1)
        self.assertEqual(view(store), before)

    def test_what_is_handed_out_can_be_changed(self):
        store = self.store([SPLIT])
        store.begin_move(1)
        store.advance(1)
        before = copy.deepcopy(store.move_view())
        wreck(store.move_view())
        self.assertEqual(store.move_view(), before)
        self.assertIsNot(store.move_view()[2], store.move_view()[2])


class MoveRunsTest(MoveCase):
    def test_writes_while_a_move_is_going_on(self):
        """From fixed seeds: a move is going on at all times, and each write keeps the copy in step."""
        ends = changed = 0
        for seed in range(80):
            source = random.Random(seed)
            model, store = Model(START), Stored(START)
            for one in (model, store):
                filled(random.Random(seed), one)
            for number in range(1, 4):
                script = any_script(source, store.tree.schema(number - 1))
                for one in (model, store):
                    outcome(one, ("evolve", number - 1, script))
                if number not in store.tree.nodes():
                    break
            with self.subTest(seed=seed):
                for _ in range(25):
                    others = [number for number in store.tree.numbers() if number != store.home()]
                    if not others:
                        break
                    if store.move_view() is None:
                        store.begin_move(source.choice(others))
                    version = source.choice(store.tree.numbers())
                    edits = any_edits(source, store.tree.schema(version), store.show(version))
                    before = store.move_view()[2]
                    self.assertEqual(outcome(store, ("write", version, edits)),
                                     outcome(model, ("write", version, edits)))
                    is_in_step(self, store)
                    changed += store.move_view()[2] != before
                    ends += advances(self, store, source.choice((1, 1, 2, 4)))
                    self.assertEqual(view(store), view(model))
        self.assertGreater(ends, 100)
        self.assertGreater(changed, 100)

    def test_the_copy_that_point_47_asks_for(self):
        """The function that the tests compare with, on the rows of two tables."""
        state = {"a": {1: (), 5: ()}, "b": {"x": (), "y": ()}}
        self.assertEqual(copied(state, None), {"a": {}, "b": {}})
        self.assertEqual(copied(state, ("a", 4)), {"a": {1: ()}, "b": {}})
        self.assertEqual(copied(state, ("b", "x")), {"a": {1: (), 5: ()}, "b": {"x": ()}})


class ArgumentsTest(MoveCase):
    def test_the_rows_of_an_example(self):
        store = Stored(SCHEMA)
        store.write(0, [AL, BO])
        store.evolve(0, [GROWN])
        store.begin_move(1)
        self.assertIs(store.advance(1), False)
        self.assertEqual(store.move_view(), (1, ("person", 1), {"person": {1: ("al b", 30)}}))
        self.assertIs(store.advance(1), True)
        self.assertEqual((store.home(), store.kept(), store.show(0)), (
            1, {"person": {1: ("al b", 30)}}, {"person": {1: ("al b", 30), 2: (None, 7)}}))


if __name__ == "__main__":
    unittest.main()
