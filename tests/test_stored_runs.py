"""Points 39 to 47 on random stores from fixed seeds: a Stored and a Model that are given the same calls."""

import copy
import random
import unittest

from lenstree.errors import VersionError
from lenstree.model import Model
from lenstree.restore import stored_from
from lenstree.stored import Stored
from tests.homes import go_home
from tests.store_case import view
from tests.store_runs import START, filled
from tests.support import wreck
from tests.twins import advances, expected, is_in_step, is_in_the_way, outcome, wild_call

STORES = 3


class TwinCase(unittest.TestCase):
    def setUp(self):
        self.counts = {}

    def seen(self, call, result):
        key = (call[0], result[0], result[1].get("code") if isinstance(result[1], dict) else "")
        self.counts[key] = self.counts.get(key, 0) + 1

    def drift(self, source, store):
        """Begin a move, or go on with it, or stop it, or do nothing."""
        draw = source.randrange(6)
        if store.move_view() is None and draw < 3:
            goal = source.choice(store.tree.numbers())
            if goal == store.home():
                with self.assertRaises(VersionError):
                    store.begin_move(goal)
            else:
                store.begin_move(goal)
        elif store.move_view() is not None and draw < 4:
            advances(self, store, source.choice((1, 2, 3, 50)))
        elif store.move_view() is not None and draw == 4:
            store.stop_move()

    def make_way(self, store, call):
        """Take the home and the move out of the way of a call, if there is a version where the home can go."""
        if store.move_view() is not None:
            store.stop_move()
        goal = call[2] if call[0] == "rebase" else [number for number in store.tree.numbers() if number != call[1]][0]
        go_home(store, goal)

    def refuses(self, store, call, seen):
        """See that a call is refused if the home or a move stands in its way; tell whether one does."""
        wanted = expected(store, call, seen)
        if not is_in_the_way(wanted):
            return False
        before = store.image()
        self.assertEqual(outcome(store, call), wanted)
        self.assertEqual(store.image(), before)
        self.seen(call, wanted)
        return True

    def call(self, source, stores, model):
        """Do a call at the model and at all stores, or see that it is refused."""
        call = wild_call(source, model)
        seen = outcome(copy.deepcopy(model), call)
        refused = [store for store in stores if self.refuses(store, call, seen)]
        if refused and source.randrange(4) == 0:
            return
        for store in refused:
            self.make_way(store, call)
        wanted = outcome(model, copy.deepcopy(call))
        self.seen(call, wanted)
        for store in stores:
            before = store.image()
            held = copy.deepcopy(call)
            self.assertEqual(outcome(store, call), wanted, call)
            self.assertEqual(call, held)
            if wanted[0] != "done":
                self.assertEqual(store.image(), before)
            self.assertEqual(view(store), view(model), call)
            is_in_step(self, store)
        # What was handed in or out can be changed without effect, as the views after the next call show.
        for thing in [call] + [part for store in stores for part in (view(store), store.image(), store.kept())]:
            wreck(thing)


class SameCallsTest(TwinCase):
    def test_a_stored_does_what_a_model_does(self):
        for seed in range(60):
            source = random.Random(seed)
            model = Model(START)
            filled(source, model)
            stores = [Stored(START) for _ in range(STORES)]
            for store in stores:
                filled(random.Random(seed), store)
            with self.subTest(seed=seed):
                for _ in range(30):
                    for store in stores[1:]:
                        self.drift(source, store)
                    self.call(source, stores, model)
        for call in ("evolve", "write", "prune", "rebase"):
            self.assertGreater(self.counts[call, "done", ""], 20, self.counts)
            self.assertGreater(self.counts[call, "VersionError", "missing"], 2, self.counts)
        for call in ("prune", "rebase"):
            for code in ("home", "moving"):
                self.assertGreater(self.counts[call, "VersionError", code], 5, self.counts)
        for code in ("check", "unique", "hidden"):
            self.assertIn(("write", "RejectedError", code), self.counts)

    def test_a_restored_store_goes_on_in_the_same_way(self):
        """At each call one store is made anew from its image, and one is not."""
        for seed in range(30):
            source = random.Random(500 + seed)
            model = Model(START)
            filled(source, model)
            store = Stored(START)
            filled(random.Random(500 + seed), store)
            with self.subTest(seed=seed):
                for _ in range(25):
                    image = store.image()
                    held = copy.deepcopy(image)
                    restored = stored_from(image)
                    self.assertEqual((image, restored.image()), (held, held))
                    self.drift(random.Random(seed), store)
                    self.drift(random.Random(seed), restored)
                    self.assertEqual(restored.image(), store.image())
                    self.call(source, [store, restored], model)
                    self.assertEqual(restored.image(), store.image())
                    store = restored


if __name__ == "__main__":
    unittest.main()
