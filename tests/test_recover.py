"""Points 59 and 60: recovery after crashes."""

import copy
import random
import unittest

from lenstree.disk import Disk
from lenstree.engine import Engine, recover
from lenstree.errors import PowerError, RecordError, StoreError
from lenstree.journal import records_of
from lenstree.restore import stored_from
from lenstree.stored import Stored
from lenstree.transactions import Desk
from tests.engine_case import EngineCase, framed, look, see
from tests.engine_runs import SMALL, any_engine_call, changes, plain_outcome, some_rows
from tests.store_case import AL, BO, GROWN, SCHEMA, SPLIT, view
from tests.twins import outcome

KEPT = (0, 1, 5, 100000)


class RecoverTest(EngineCase):
    def found(self, disk, engine):
        """Recover from a disk on which an engine is; see that all is as the engine shows it."""
        seen = see(engine)
        current = (engine.generation() - 1) & 1
        before = look(disk)
        result = recover(disk)
        self.assertIs(type(result), Engine)
        self.assertEqual(see(result)[:-1], seen[:-1])
        self.assertEqual(result.generation(), seen[-1] + 1)
        # The checkpoint that it makes goes to the other area.
        self.assertEqual(look(disk)[current], before[current])
        self.holds(disk, 1 - current, [("image", seen[-1] + 1, result.image())])
        return result

    def test_a_new_engine(self):
        disk = Disk()
        self.found(disk, Engine(disk, SCHEMA))
        disk = Disk()
        self.found(disk, Engine(disk, {}))

    def test_all_calls_are_done_again(self):
        disk = Disk()
        engine = Engine(disk, SCHEMA)
        for call in (("write", 0, [AL, BO]), ("evolve", 0, [SPLIT]), ("evolve", 0, []), ("begin_move", 1),
                     ("advance", 1), ("stop_move",), ("begin_move", 2), ("advance", 7), ("rebase", 1, 2),
                     ("write", 1, [("delete", "person", 1)]), ("prune", 0), ("evolve", 2, [GROWN]), ("begin_move", 1),
                     ("advance", 1)):
            getattr(engine, call[0])(*call[1:])
            self.found(copy.deepcopy(disk), engine)
            self.found(disk.restarted(0), engine)
        engine.checkpoint()
        self.found(copy.deepcopy(disk), engine)
        engine.advance(5)
        self.found(disk, engine)

    def test_it_goes_on(self):
        disk, engine = self.busy()
        plain = stored_from(engine.image())
        for number in range(4):
            engine = self.found(disk, engine)
            for call in (("write", 0, [("set", "person", 1, "age", 40 + number)]), ("evolve", 0, []), ("advance", 1),
                         ("prune", 3 + number)):
                self.assertEqual(outcome(engine, call), outcome(plain, call))
                self.assertEqual(engine.image(), plain.image())
                self.assertEqual(engine.tree.outline(), plain.tree.outline())
        self.assertEqual(engine.generation(), 5)

    def test_its_journal(self):
        disk, engine = self.busy()
        result = self.found(disk, engine)
        image = result.image()
        result.write(0, [("delete", "person", 2)])
        self.holds(disk, 1, [("image", 2, image), ("write", 0, [("delete", "person", 2)])])
        result.checkpoint()
        self.holds(disk, 0, [("image", 3, result.image())])

    def test_the_greater_generation_counts(self):
        one, two = Stored(SCHEMA), Stored(SCHEMA)
        one.write(0, [AL])
        for first, second, image in ((1, 2, two), (2, 1, one), (9, 10, two), (300, 299, one)):
            disk = Disk()
            disk.append(0, framed([("image", first, one.image()), ("write", 0, [BO])]))
            disk.append(1, framed([("image", second, two.image()), ("write", 0, [BO])]))
            result = recover(disk)
            self.assertEqual(result.show(0)["person"], {**image.show(0)["person"], 2: (None, 7)})
            self.assertEqual(result.generation(), max(first, second) + 1)
            # The other area is taken for the checkpoint.
            area = 0 if second > first else 1
            self.holds(disk, area, [("image", max(first, second) + 1, result.image())])
            self.assertEqual(len(records_of(disk.contents(1 - area))), 2)

    def test_a_first_frame_that_is_not_complete(self):
        """Its area does not count, however great its generation is."""
        store = Stored(SCHEMA)
        good = framed([("image", 3, store.image()), ("write", 0, [AL])])
        other = framed([("image", 8, store.image())])
        for cut in range(len(other)):
            for area in (0, 1):
                disk = Disk()
                disk.append(area, good)
                disk.append(1 - area, other[:cut])
                result = recover(disk)
                self.assertEqual((result.generation(), result.show(0)), (4, {"person": {1: ("al b", 30)}}))
                self.holds(disk, 1 - area, [("image", 4, result.image())])

    def test_no_area_at_all(self):
        whole = framed([("image", 1, Stored({}).image())])
        for first, second in ((0, 0), (1, 0), (3, 4), (len(whole) - 1, len(whole) - 1), (0, 9)):
            disk = Disk()
            disk.append(0, whole[:first])
            disk.append(1, whole[:second])
            before = look(disk)
            for units in (1000, 0):
                disk.limit_power(units)
                with self.assertRaises(RecordError) as caught:
                    recover(disk)
                self.assertEqual(vars(caught.exception), {"at": 0})
                self.assertEqual(look(disk), before)

    def test_what_ends_within_a_frame_is_left_out(self):
        disk, engine = self.fresh([SPLIT])
        last = framed([("write", 0, [("delete", "person", 1)])])
        for cut in range(len(last)):
            torn = copy.deepcopy(disk)
            torn.append(0, last[:cut])
            self.assertEqual(recover(torn).image(), engine.image())
        disk.append(0, last)
        self.assertEqual(recover(disk).show(0), {"person": {2: (None, 7)}})

    def test_a_disk_that_is_down(self):
        disk, engine = self.busy()
        disk.limit_power(0)
        self.no_power(engine, "stop_move")
        before = look(disk)
        with self.assertRaises(PowerError):
            recover(disk)
        self.assertEqual(look(disk), before)
        self.assertEqual(recover(disk.restarted(0)).move_view(), (1, ("person", 1), {"person": {1: ("al", "b", 30)}}))

    def test_a_recovery_that_is_interrupted_everywhere(self):
        disk, engine = self.busy()
        engine.checkpoint()
        engine.advance(1)
        image = engine.image()
        units = 0
        while True:
            limited = disk.restarted(0)
            limited.limit_power(units)
            try:
                result = recover(limited)
            except PowerError:
                for kept in KEPT:
                    again = recover(limited.restarted(kept))
                    self.assertEqual(again.image(), image)
                    # If the frame was complete, that of this generation is the one that counts.
                    self.assertIn(again.generation(), (3, 4) if kept == KEPT[-1] else (3,))
                units += 1
            else:
                break
        # A wipe, the bytes of the frame, and a sync.
        self.assertEqual(units, len(framed([("image", 3, image)])) + 2)
        self.assertEqual((result.image(), result.generation()), (image, 3))


class CrashCase(unittest.TestCase):
    def setUp(self):
        self.crashes = 0

    def planned(self, source, many):
        """Return a list of calls, and the images behind each of them, the first one that of a new store."""
        store = Stored(SMALL)
        calls, images = [], [store.image()]
        rows = ("write", 0, some_rows(source))
        while len(calls) < many:
            call = rows if calls == [] else any_engine_call(source, store)
            result = plain_outcome(store, copy.deepcopy(call))
            if changes(call, result) or call[0] == "checkpoint" or source.randrange(3) == 0:
                calls.append(call)
                images.append(store.image())
        return calls, images

    def begins(self, image):
        """Take the power away at each place of the making of an engine, and return the disk and the engine at last."""
        units = 0
        while True:
            disk = Disk()
            disk.limit_power(units)
            try:
                engine = Engine(disk, SMALL)
            except PowerError:
                self.first_crash(disk, image)
                units += 1
            else:
                break
        self.assertEqual(units, len(framed([("image", 1, image)])) + 3)
        disk = Disk()
        return disk, Engine(disk, SMALL)

    def first_crash(self, disk, image):
        self.crashes += 1
        for kept in KEPT:
            restarted = disk.restarted(kept)
            try:
                engine = recover(restarted)
            except RecordError as error:
                self.assertEqual(error.at, 0)
            else:
                self.assertEqual(engine.image(), image)

    def crash(self, disk, before, after, left):
        """See what is recovered from a disk whose power failed in a call, and that the engine works on afterwards.

        `left` has the calls from the interrupted one on, with the image behind each of them.
        """
        self.crashes += 1
        for kept in KEPT:
            engine = recover(disk.restarted(kept))
            image = engine.image()
            self.assertIn(image, (before, after))
            if kept == 0:
                self.assertEqual(image, before)
        for call, image in left if image == before else left[1:]:
            outcome(engine, call)
            self.assertEqual(engine.image(), image)

    def repeated(self, disk, before, after):
        """Interrupt the recovery from a crash everywhere, and repeat it."""
        for kept in KEPT:
            units = 0
            while True:
                limited = disk.restarted(kept)
                limited.limit_power(units)
                try:
                    image = recover(limited).image()
                except PowerError:
                    images = [recover(limited.restarted(again)).image() for again in KEPT]
                    self.assertEqual(images, [images[0]] * 4)
                    self.assertIn(images[0], (before, after))
                    units += 7
                else:
                    break
            self.assertEqual(image, images[0])

    def run_through(self, calls, images, every):
        """Do the calls; at each of them take the power away at each place first, on copies of the engine."""
        disk, engine = self.begins(images[0])
        for place, call in enumerate(calls):
            left = list(zip(calls, images[1:]))[place:]
            units = 0
            while True:
                torn, half = copy.deepcopy((disk, engine))
                torn.limit_power(units)
                if outcome(half, copy.deepcopy(call))[0] != "PowerError":
                    break
                with self.assertRaises(PowerError):
                    half.image()
                self.crash(torn, images[place], images[place + 1], left if units < 2 else left[:2])
                if units == 3 and every:
                    self.repeated(torn, images[place], images[place + 1])
                units += 1
            outcome(engine, copy.deepcopy(call))
            self.assertEqual(engine.image(), images[place + 1])
            for kept in KEPT[::3]:
                self.assertEqual(recover(disk.restarted(kept)).image(), images[place + 1])


class CrashTest(CrashCase):
    def test_power_for_every_number_of_units(self):
        for seed in range(8):
            calls, images = self.planned(random.Random(seed), 6)
            with self.subTest(seed=seed):
                self.run_through(calls, images, False)
        self.assertGreater(self.crashes, 2000)

    def test_recoveries_that_are_interrupted_and_repeated(self):
        for seed in range(100, 102):
            calls, images = self.planned(random.Random(seed), 5)
            with self.subTest(seed=seed):
                self.run_through(calls, images, True)

    def test_one_crash_behind_the_other(self):
        """Each engine that is recovered goes on until the power fails again."""
        for seed in range(40):
            source = random.Random(300 + seed)
            calls, images = self.planned(source, 12)
            disk = Disk()
            Engine(disk, SMALL)
            place = fails = 0
            with self.subTest(seed=seed):
                while place < len(calls):
                    disk = disk.restarted(source.choice(KEPT))
                    whole = len(framed([("image", 1, images[place])]))
                    disk.limit_power(source.randrange(2 * whole + 200))
                    try:
                        engine = recover(disk)
                        self.assertEqual(engine.image(), images[place])
                        place = self.until_it_fails(engine, calls, images, place)
                    except PowerError:
                        fails += 1
                    # The interrupted call may have been done.
                    seen = recover(disk.restarted(0)).image()
                    kept = recover(disk.restarted(100000)).image()
                    self.assertEqual(seen, images[place])
                    if kept != seen:
                        self.assertEqual(kept, images[place + 1])
                        disk = disk.restarted(100000)
                        place += 1
                    else:
                        disk = disk.restarted(source.choice(KEPT))
                self.assertEqual(recover(disk.restarted(0)).image(), images[-1])

    def until_it_fails(self, engine, calls, images, place):
        """Do calls from a place on; return the place of the first one that was not done."""
        while place < len(calls):
            if outcome(engine, copy.deepcopy(calls[place]))[0] == "PowerError":
                return place
            place += 1
            self.assertEqual(engine.image(), images[place])
        return place


class DeskCrashTest(unittest.TestCase):
    """Points 49 and 58: what is left of transactions behind a crash."""

    def made(self, units=None):
        """Make a disk, and an engine with three transactions: one that is aborted, one that is open, one to commit."""
        disk = Disk()
        engine = Engine(disk, SCHEMA)
        engine.write(0, [AL, BO])
        engine.evolve(0, [SPLIT])
        desk = Desk(engine)
        done, aborted, left_open, last = [desk.begin(1) for _ in range(4)]
        desk.edit(done, [("set", "person", 1, "first", "z"), ("insert", "person", (5, "a", "b", 1))])
        desk.edit(aborted, [("delete", "person", 2)])
        desk.edit(left_open, [("insert", "person", (6, "a", "b", 1))])
        desk.edit(last, [("insert", "person", (7, "c", "d", 1))])
        desk.edit(last, [("set", "person", 7, "age", 2), ("delete", "person", 2)])
        desk.commit(done)
        desk.abort(aborted)
        return disk, engine, desk, last

    def test_committed_aborted_and_left_open(self):
        disk, engine, desk, last = self.made()
        before = {"person": {1: ("z b", 30), 2: (None, 7), 5: ("a b", 1)}}
        after = {"person": {1: ("z b", 30), 5: ("a b", 1), 7: ("c d", 2)}}
        self.assertEqual(recover(disk.restarted(0)).show(0), before)
        self.assertEqual(records_of(disk.contents(0))[-1], (
            "write", 1, [("set", "person", 1, "first", "z"), ("insert", "person", (5, "a", "b", 1))]))
        desk.commit(last)
        self.assertEqual(recover(disk.restarted(0)).show(0), after)

    def test_a_commit_that_the_power_interrupts(self):
        whole = framed([("write", 1, [("insert", "person", (7, "c", "d", 1)), ("set", "person", 7, "age", 2),
                                      ("delete", "person", 2)])])
        disk, engine, desk, last = self.made()
        before = engine.image()
        seen = []
        for units in range(len(whole) + 2):
            disk, engine, desk, last = self.made()
            disk.limit_power(units)
            try:
                desk.commit(last)
            except PowerError:
                seen.append([recover(disk.restarted(kept)).image() == before for kept in KEPT])
        # Only the whole frame, when all of its bytes are kept, makes the commit.
        self.assertEqual(seen, [[True] * 4] * len(whole) + [[True, True, True, False]])

    def test_without_edits(self):
        disk, engine, desk, last = self.made()
        before = look(disk)
        desk.commit(desk.begin(0))
        number = desk.begin(1)
        desk.scan(number, "person")
        desk.edit(number, [])
        desk.commit(number)
        self.assertEqual(look(disk), before)

    def test_refused_and_rejected(self):
        disk, engine, desk, last = self.made()
        engine.evolve(0, [GROWN])
        refused, rejected = desk.begin(2), desk.begin(2)
        desk.edit(refused, [("set", "person", 1, "age", 31)])
        desk.edit(rejected, [("insert", "person", (2, "x", 20))])
        engine.write(1, [("set", "person", 1, "age", 32)])
        before, seen = look(disk), view(engine)
        for number in (refused, rejected):
            with self.assertRaises(StoreError):
                desk.commit(number)
        self.assertEqual((look(disk), view(engine)), (before, seen))

    def test_a_desk_over_an_engine_that_was_recovered(self):
        disk, engine, desk, last = self.made()
        engine = recover(disk.restarted(0))
        desk = Desk(engine)
        number = desk.begin(1)
        self.assertEqual(number, 0)
        self.assertEqual(desk.read(number, "person", 5), (5, "a", "b", 1))
        desk.edit(number, [("delete", "person", 5)])
        desk.commit(number)
        self.assertEqual(sorted(engine.show(0)["person"]), [1, 2])


if __name__ == "__main__":
    unittest.main()
