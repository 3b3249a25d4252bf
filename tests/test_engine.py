"""Points 58 and 52: an engine, which is a store on a disk, and its journal. Points 39 to 51 for an engine."""

import copy
import unittest

from lenstree.answers import answer
from lenstree.disk import Disk
from lenstree.engine import Engine
from lenstree.errors import EditError, PowerError, QueryError, RejectedError, StepError, VersionError
from lenstree.journal import records_of
from lenstree.stored import Stored
from lenstree.tree import Tree
from tests.desk_tests import desk_cases
from tests.engine_case import (
    WRONG, EngineCase, MovingEngine, RoamingEngine, ShyEngine, framed, look, see,
)
from tests.homes import go_home, store_cases
from tests.store_case import AL, BO, GROWN, SCHEMA, SPLIT, view
from tests.support import containers, only, wreck
from tests.twins import outcome

for kind in (ShyEngine, RoamingEngine, MovingEngine):
    globals().update(store_cases(lambda schema, kind=kind: kind(Disk(), schema), kind.__name__))
    globals().update(desk_cases(lambda schema, kind=kind: kind(Disk(), schema), kind.__name__))


class NewTest(EngineCase):
    def test_a_new_engine(self):
        disk = Disk()
        engine = Engine(disk, SCHEMA)
        self.assertIs(type(engine.tree), Tree)
        self.assertEqual(engine.image(), Stored(SCHEMA).image())
        self.assertEqual(engine.generation(), 1)
        self.holds(disk, 0, [("image", 1, Stored(SCHEMA).image())])
        self.assertEqual(look(disk)[1], ([], 0))
        disk = Disk()
        self.assertEqual(Engine(disk, {}).show(0), {})
        self.holds(disk, 0, [("image", 1, Stored({}).image())])

    def test_on_a_disk_that_has_been_used(self):
        disk, engine = self.busy()
        engine.checkpoint()
        disk.append(1, [1, 2, 3])
        Engine(disk, {})
        self.holds(disk, 0, [("image", 1, Stored({}).image())])
        self.assertEqual(look(disk)[1], ([], 0))

    def test_the_order_of_its_acts(self):
        """Area 0 is wiped, then area 1, then the image is appended and synced."""
        whole = framed([("image", 1, Stored({}).image())])
        for units in range(len(whole) + 4):
            disk = Disk()
            for area in (0, 1):
                disk.append(area, [area])
                disk.sync(area)
            disk.limit_power(units)
            if units < len(whole) + 3:
                with self.assertRaises(PowerError):
                    Engine(disk, {})
            else:
                Engine(disk, {})
            written = whole[:max(units - 2, 0)]
            self.assertEqual(disk.contents(0), written if units > 0 else [0])
            self.assertEqual(disk.contents(1), [] if units > 1 else [1])
            durable = {0: 1, len(whole) + 3: len(whole)}
            self.assertEqual(disk.durable(0), durable.get(units, 0))

    def test_the_schema_is_copied(self):
        schema = copy.deepcopy(SCHEMA)
        disk = Disk()
        engine = Engine(disk, schema)
        wreck(schema)
        self.assertEqual(engine.tree.schema(0), SCHEMA)
        engine.checkpoint()
        self.holds(disk, 1, [("image", 2, Stored(SCHEMA).image())])


class JournalTest(EngineCase):
    def test_a_frame_for_each_call(self):
        disk = Disk()
        engine = Engine(disk, SCHEMA)
        records = [("image", 1, Stored(SCHEMA).image())]
        for call, result in (
            (("write", 0, [AL, BO]), None), (("evolve", 0, [SPLIT]), 1), (("evolve", 0, []), 2),
            (("begin_move", 1), None), (("advance", 1), False), (("stop_move",), None), (("begin_move", 2), None),
            (("advance", 7), True), (("rebase", 1, 2), None), (("write", 1, [("delete", "person", 1)]), None),
            (("prune", 0), None), (("evolve", 2, [GROWN]), 3),
        ):
            self.assertEqual(getattr(engine, call[0])(*call[1:]), result)
            records.append(call)
            self.holds(disk, 0, records)
            self.assertEqual(disk.contents(1), [])
        self.assertEqual(records_of(disk.contents(0)), records)
        self.assertEqual(engine.generation(), 1)

    def test_calls_that_change_nothing(self):
        disk, engine = self.fresh([SPLIT])
        records = records_of(disk.contents(0))
        for call in (("write", 0, []), ("write", 1, [("set", "person", 1, "age", 30)]),
                     ("write", 0, [("replace", "person", (2, None, 7))])):
            before = engine.image()
            getattr(engine, call[0])(*call[1:])
            self.assertEqual(engine.image(), before)
            records.append(call)
            self.holds(disk, 0, records)

    def test_calls_that_only_read(self):
        disk, engine = self.busy()
        before = look(disk)
        engine.show(1), engine.complements(2), engine.home(), engine.kept(), engine.move_view(), engine.image()
        engine.generation(), engine.query(1, ("table", "person")), engine.tree.outline()
        self.assertEqual(look(disk), before)
        # They need no power.
        disk.limit_power(0)
        engine.show(1), engine.image(), engine.query(0, ("table", "person"))
        self.assertEqual(look(disk), before)

    def test_no_frame_for_a_call_that_raises(self):
        disk, engine = self.busy()
        before, seen = look(disk), see(engine)
        for call, wanted in (
            (("write", 9, []), (VersionError, {"code": "missing"})),
            (("write", 0, [AL]), (EditError, {"code": "key", "index": 0})),
            (("write", 2, [("set", "person", 1, "age", 3)]),
             (RejectedError, {"version": 2, "code": "check", "table": "person", "key": 1})),
            (("evolve", 0, [("drop_table", "nowhere")]), (StepError, {"code": "missing", "index": 0})),
            (("prune", 0), (VersionError, {"code": "home"})), (("prune", 1), (VersionError, {"code": "moving"})),
            (("rebase", 2, 1), (VersionError, {"code": "moving"})),
            (("rebase", 0, 1), (VersionError, {"code": "root"})),
            (("begin_move", 2), (VersionError, {"code": "moving"})),
            (("query", 9, ("table", "nowhere")), (VersionError, {"code": "missing"})),
        ):
            with self.subTest(call=call):
                # Without power, too: it is done in memory first, and nothing is written.
                for units in (1000, 0):
                    disk.limit_power(units)
                    self.assertEqual(outcome(engine, call), (wanted[0].__name__, wanted[1]))
                    self.assertEqual((look(disk), see(engine)), (before, seen))
        disk.limit_power(1000)
        engine.stop_move()
        for call in (("advance", 1), ("stop_move",)):
            self.assertEqual(outcome(engine, call), ("VersionError", {"code": "moving"}))
        self.holds(disk, 0, records_of(before[0][0]) + [("stop_move",)])

    def test_checkpoint(self):
        disk, engine = self.busy()
        first = look(disk)[0]
        self.assertIsNone(engine.checkpoint())
        self.assertEqual(engine.generation(), 2)
        self.assertEqual(look(disk)[0], first)
        self.holds(disk, 1, [("image", 2, engine.image())])
        image = engine.image()
        engine.advance(1)
        self.holds(disk, 1, [("image", 2, image), ("advance", 1)])
        self.assertEqual(look(disk)[0], first)
        second = look(disk)[1]
        engine.checkpoint()
        self.assertEqual(engine.generation(), 3)
        self.holds(disk, 0, [("image", 3, engine.image())])
        self.assertEqual(look(disk)[1], second)
        engine.checkpoint()
        engine.checkpoint()
        self.assertEqual(engine.generation(), 5)
        self.holds(disk, 1, [("image", 4, engine.image())])
        self.holds(disk, 0, [("image", 5, engine.image())])

    def test_a_checkpoint_changes_nothing_else(self):
        _, engine = self.busy()
        before = see(engine)
        engine.checkpoint()
        self.assertEqual(see(engine)[:-1], before[:-1])
        self.assertEqual(engine.advance(5), True)

    def test_the_tree_is_read_anew(self):
        _, engine = self.fresh()
        self.assertEqual(engine.tree.numbers(), [0])
        engine.evolve(0, [SPLIT])
        self.assertEqual(engine.tree.numbers(), [0, 1])
        engine.evolve(0, [])
        engine.rebase(1, 2)
        self.assertEqual(engine.tree.parent(1), 2)
        engine.prune(2)
        self.assertEqual(engine.tree.numbers(), [0, 1])
        engine.checkpoint()
        self.assertEqual(engine.tree.nodes(), [0, 1, 2])


class DownTest(EngineCase):
    def test_each_act_that_may_fail(self):
        """A call that appends n bytes needs n units and one for its sync."""
        for call in (("write", 0, [("delete", "person", 1)]), ("evolve", 0, [GROWN]), ("advance", 1), ("advance", 9),
                     ("stop_move",), ("prune", 2)):
            length = len(framed([call]))
            for units in (0, 1, 4, length - 1, length, length + 1):
                disk, engine = self.busy()
                before = disk.contents(0)
                disk.limit_power(units)
                with self.subTest(call=call, units=units):
                    if units <= length:
                        self.no_power(engine, *call)
                        self.assertEqual(disk.contents(0), before + framed([call])[:units])
                        self.assertEqual(disk.durable(0), len(before))
                        self.is_down(disk, engine)
                    else:
                        getattr(engine, call[0])(*call[1:])
                        self.assertEqual(disk.durable(0), len(before) + length)

    def test_rebase_and_begin_move(self):
        for call in (("rebase", 2, 1), ("begin_move", 2)):
            disk, engine = self.fresh([SPLIT], [("rename_table", "person", "folk")])
            tree = engine.tree.outline()
            disk.limit_power(3)
            self.no_power(engine, *call)
            self.is_down(disk, engine)
            self.assertEqual(engine.tree.outline(), tree)

    def test_checkpoint(self):
        for home in (0, 1):
            disk, engine = self.busy()
            if home:
                engine.checkpoint()
            current = engine.generation() - 1
            other = 1 - current
            length = len(framed([("image", engine.generation() + 1, engine.image())]))
            for units in (0, 1, 2, 50, length, length + 1, length + 2):
                one, two = copy.deepcopy((disk, engine))
                before = look(one)
                one.limit_power(units)
                with self.subTest(units=units, home=home):
                    if units < length + 2:
                        self.no_power(two, "checkpoint")
                        self.is_down(one, two)
                        self.assertEqual(one.durable(other), 0 if units else before[other][1])
                    else:
                        two.checkpoint()
                        self.assertEqual(two.generation(), engine.generation() + 1)
                    self.assertEqual(look(one)[current], before[current])

    def test_a_disk_that_another_one_used_up(self):
        """The engine is down only when one of its own calls has met the failure."""
        disk, engine = self.busy()
        seen = see(engine)
        disk.limit_power(0)
        with self.assertRaises(PowerError):
            disk.sync(1)
        self.assertEqual(see(engine), seen)
        self.assertEqual(outcome(engine, ("prune", 0)), ("VersionError", {"code": "home"}))
        self.no_power(engine, "write", 0, [])
        self.is_down(disk, engine)

    def test_an_engine_that_is_down_looks_at_nothing_else(self):
        disk, engine = self.busy()
        disk.limit_power(0)
        self.no_power(engine, "stop_move")
        for call in WRONG:
            self.no_power(engine, *call)


class QueryTest(EngineCase):
    def test_equal_to_answer(self):
        _, engine = self.fresh([SPLIT], [GROWN])
        for version in (0, 1, 2):
            for query in (
                ("table", "person"), ("where", ("table", "person"), only("age", ">", 20)),
                ("group", ("table", "person"), (), (("sum", "age", "total"), ("count", "id", "many"))),
                ("order", ("select", ("table", "person"), ("age", "id")), (("age", True),)),
            ):
                expected = answer(engine.tree.schema(version), engine.show(version), query)
                self.assertEqual(engine.query(version, query), expected)
        self.assertEqual(engine.query(1, ("select", ("table", "person"), ("first", "age"))), [("al", 30), (None, 7)])
        self.assertEqual(engine.query(2, ("table", "person")), [(1, "al b", 30)])

    def test_missing_then_query_errors(self):
        disk, engine = self.fresh([SPLIT], [])
        engine.evolve(1, [])
        engine.prune(1)
        before = look(disk)
        for version in (1, 4, -1):
            for query in (("table", "person"), ("table", "nowhere")):
                self.assertEqual(outcome(engine, ("query", version, query)), ("VersionError", {"code": "missing"}))
        for version, query, code in ((0, ("table", "nowhere"), "table"),
                                     (0, ("select", ("table", "person"), ("first",)), "column"),
                                     (3, ("where", ("table", "person"), only("name", "=", "x")), "condition")):
            with self.assertRaises(QueryError) as caught:
                engine.query(version, query)
            self.assertEqual(vars(caught.exception), {"code": code})
        self.assertEqual(look(disk), before)

    def test_what_is_handed_out_can_be_changed(self):
        _, engine = self.fresh()
        wreck(engine.query(0, ("table", "person")))
        self.assertEqual(engine.query(0, ("table", "person")), [(1, "al b", 30), (2, None, 7)])


class ArgumentsTest(EngineCase):
    def test_what_is_handed_in_can_be_changed(self):
        disk = Disk()
        engine = Engine(disk, SCHEMA)
        edits, script = [AL, BO], [SPLIT]
        engine.write(0, edits)
        engine.evolve(0, script)
        image, before = engine.image(), look(disk)
        wreck(edits)
        wreck(script)
        self.assertEqual((engine.image(), look(disk)), (image, before))
        engine.checkpoint()
        self.holds(disk, 1, [("image", 2, image)])

    def test_what_is_handed_out_can_be_changed(self):
        _, engine = self.busy()
        before = see(engine)
        for first, second in ((see(engine), see(engine)), (engine.show(2), engine.show(2))):
            self.assertEqual(containers(first) & containers(second), set())
            wreck(first)
            wreck(second)
        self.assertEqual(see(engine), before)

    def test_two_engines_share_nothing(self):
        _, one = self.busy()
        disk, two = self.busy()
        before = (see(two), look(disk))
        one.write(0, [("delete", "person", 1)])
        one.stop_move()
        go_home(one, 2)
        one.evolve(2, [])
        one.checkpoint()
        self.assertEqual((see(two), look(disk)), before)
        self.assertNotEqual(view(one), view(two))


if __name__ == "__main__":
    unittest.main()
