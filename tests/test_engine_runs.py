"""Point 58 on random engines from fixed seeds: a Stored that is given the same calls, and the bytes of the journal."""

import copy
import random
import unittest

from lenstree.disk import Disk
from lenstree.engine import Engine
from lenstree.stored import Stored
from tests.engine_case import framed, look
from tests.engine_runs import any_engine_call, changes, plain_outcome
from tests.store_case import view
from tests.store_runs import START, filled
from tests.support import wreck
from tests.twins import outcome


class EngineRunsTest(unittest.TestCase):
    def test_an_engine_does_what_a_stored_does(self):
        counts = {}
        for seed in range(60):
            source = random.Random(seed)
            disk, store = Disk(), Stored(START)
            engine = Engine(disk, START)
            filled(random.Random(seed), store)
            filled(random.Random(seed), engine)
            engine.checkpoint()
            records, generation = [("image", 2, store.image())], 2
            other = look(disk)[0]
            with self.subTest(seed=seed):
                for _ in range(40):
                    call = any_engine_call(source, store)
                    held = copy.deepcopy(call)
                    result = plain_outcome(store, copy.deepcopy(call))
                    self.assertEqual(outcome(engine, call), result, call)
                    self.assertEqual(call, held)
                    wreck(call)
                    counts[held[0], result[0]] = counts.get((held[0], result[0]), 0) + 1
                    if changes(held, result):
                        records.append(held)
                    elif held[0] == "checkpoint":
                        other = look(disk)[(generation - 1) & 1]
                        generation += 1
                        records = [("image", generation, store.image())]
                    self.same(engine, store)
                    self.assertEqual(engine.generation(), generation)
                    area = (generation - 1) & 1
                    self.assertEqual(disk.contents(area), framed(records))
                    self.assertEqual(disk.durable(area), len(disk.contents(area)))
                    self.assertEqual(look(disk)[1 - area], other)
        for name in ("evolve", "write", "prune", "rebase", "begin_move", "advance", "stop_move", "checkpoint", "query"):
            self.assertGreater(counts[name, "done"], 8, counts)
        for name in ("evolve", "write", "prune", "rebase", "begin_move", "advance", "stop_move", "query"):
            errors = [counts[key] for key in counts if key[0] == name and key[1] != "done"]
            self.assertGreater(sum(errors), 5, counts)

    def same(self, engine, store):
        self.assertEqual(view(engine), view(store))
        self.assertEqual(engine.image(), store.image())
        self.assertEqual((engine.home(), engine.kept(), engine.move_view()),
                         (store.home(), store.kept(), store.move_view()))
        wreck(engine.image())
        wreck(view(engine))


if __name__ == "__main__":
    unittest.main()
