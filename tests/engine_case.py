"""What the tests of engines share."""

import unittest

from lenstree.disk import Disk
from lenstree.engine import Engine
from lenstree.errors import PowerError
from lenstree.journal import frame
from tests.homes import Moving, Roaming, Shy
from tests.store_case import AL, BO, GROWN, SCHEMA, SPLIT, view
from tests.twins import outcome

# Every method of an engine, with arguments that are allowed at first, and with such as are not.
READING = [("show", 0), ("complements", 0), ("home",), ("kept",), ("move_view",), ("image",), ("generation",),
           ("query", 0, ("table", "person"))]
WRITING = [("evolve", 0, []), ("write", 0, [AL]), ("prune", 0), ("rebase", 1, 0), ("begin_move", 1), ("advance", 1),
           ("stop_move",), ("checkpoint",)]
WRONG = [("show", 9), ("query", 9, ("table", "nowhere")), ("query", 0, ("table", "nowhere")), ("evolve", 9, []),
         ("write", 9, []), ("write", 0, [("delete", "nowhere", 1)] * 25), ("prune", 9), ("rebase", 9, 9),
         ("begin_move", 9)]


class ShyEngine(Shy, Engine):
    pass


class RoamingEngine(Roaming, Engine):
    pass


class MovingEngine(Moving, Engine):
    pass


def framed(records):
    """Return the bytes of the frames of several records."""
    return [number for record in records for number in frame(record)]


def look(disk):
    """Return all that can be seen of a disk."""
    return [(disk.contents(area), disk.durable(area)) for area in (0, 1)]


def see(engine):
    """Return all that can be seen of an engine that is not down."""
    return (view(engine), engine.image(), engine.home(), engine.kept(), engine.move_view(), engine.generation())


class EngineCase(unittest.TestCase):
    def fresh(self, *scripts):
        """Return a disk and an engine with two people whose further versions are all below the root."""
        disk = Disk()
        engine = Engine(disk, SCHEMA)
        engine.write(0, [AL, BO])
        for script in scripts:
            engine.evolve(0, script)
        return disk, engine

    def busy(self):
        """Return a disk and an engine with three versions and a move that is going on."""
        disk, engine = self.fresh([SPLIT], [GROWN])
        engine.begin_move(1)
        engine.advance(1)
        return disk, engine

    def holds(self, disk, area, records):
        """See that an area has exactly the frames of these records, and that all its bytes are durable."""
        self.assertEqual(disk.contents(area), framed(records))
        self.assertEqual(disk.durable(area), len(disk.contents(area)))

    def no_power(self, engine, method, *arguments):
        with self.assertRaises(PowerError) as caught:
            getattr(engine, method)(*arguments)
        self.assertIs(type(caught.exception), PowerError)

    def is_down(self, disk, engine):
        """See that every method of an engine raises PowerError, whatever its arguments, and leaves the disk."""
        before = look(disk)
        for _ in range(2):
            for call in READING + WRITING + WRONG:
                with self.subTest(call=call):
                    self.assertEqual(outcome(engine, call), ("PowerError", {}))
            disk.limit_power(1000)
        self.assertEqual(look(disk), before)
