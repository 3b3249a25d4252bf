"""Points 48 to 51 on small runs from fixed seeds: all that transactions see, and how they end."""

import random
import unittest

from lenstree.disk import Disk
from lenstree.engine import recover
from lenstree.model import Model
from tests.desk_runs import DeskRun, all_counts
from tests.engine_case import MovingEngine
from tests.homes import MovingStored, ShyStored
from tests.store_case import view
from tests.store_runs import START, filled


class DeskRunsTest(unittest.TestCase):
    def runs(self, make, seeds):
        found = []
        for seed in seeds:
            source = random.Random(seed)
            store, alone = make(START), make(START)
            filled(random.Random(seed), store)
            filled(random.Random(seed), alone)
            with self.subTest(make=make.__name__, seed=seed):
                run = DeskRun(self, source, store, alone)
                run.go(60)
                found.append(run)
        return all_counts(found)

    def was_busy(self, counts):
        """See that the runs were such as can show something."""
        for key in (("commit", "TransactionError", "conflict"), ("commit", "done", ""), "again"):
            self.assertGreater(counts[key], 30, counts)
        for key in (("commit", "TransactionError", "gone"), ("read", "EditError", "table"),
                    ("read", "EditError", "key"), ("edit", "EditError", "key"), ("edit", "done", ""),
                    ("scan", "done", "")):
            self.assertGreater(counts.get(key, 0), 2, counts)
        rejected = [counts[key] for key in counts if key[:2] == ("commit", "RejectedError")]
        self.assertGreater(sum(rejected), 4, counts)

    def test_over_a_model(self):
        self.was_busy(self.runs(Model, range(40)))

    def test_over_a_stored(self):
        self.was_busy(self.runs(ShyStored, range(100, 140)))

    def test_over_a_stored_whose_home_moves(self):
        self.was_busy(self.runs(MovingStored, range(200, 240)))

    def test_over_an_engine(self):
        """What was committed is there behind a crash, and nothing else."""
        disks = []

        def make(schema):
            disks.append(Disk())
            return MovingEngine(disks[-1], schema)

        self.was_busy(self.runs(make, range(300, 330)))
        # The engines come in pairs, of which the second one had each transaction alone.
        for disk, alone in zip(disks[::2], disks[1::2]):
            self.assertEqual(view(recover(disk.restarted(0))), view(recover(alone.restarted(0))))


if __name__ == "__main__":
    unittest.main()
