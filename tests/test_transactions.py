"""Points 48 to 50: transactions over a Model and over a Stored, whichever version is its home."""

import unittest

from lenstree.errors import TransactionError
from lenstree.model import Model
from lenstree.stored import Stored
from lenstree.transactions import Desk
from tests.desk_tests import desk_cases, person
from tests.homes import MovingStored, NewestStored, ShyStored, go_home
from tests.store_case import SCHEMA, SPLIT

globals().update(desk_cases(Model, "Model"))
globals().update(desk_cases(ShyStored, "Stored"))
globals().update(desk_cases(NewestStored, "Newest"))
globals().update(desk_cases(MovingStored, "Moving"))


class Listening(Stored):
    """A store that tells which writes it was asked for."""

    def __init__(self, schema):
        super().__init__(schema)
        self.heard = []

    def write(self, version, edits):
        self.heard.append((version, list(edits)))
        return super().write(version, edits)


class OneWriteTest(unittest.TestCase):
    def test_a_commit_is_one_write_with_all_edits(self):
        store = Listening(SCHEMA)
        store.evolve(0, [SPLIT])
        desk = Desk(store)
        number = desk.begin(1)
        edits = [("insert", "person", (1, "a", "b", 3)), ("set", "person", 1, "age", 4), ("delete", "person", 1),
                 ("insert", "person", (1, "c", "d", 5))]
        desk.edit(number, edits[:1])
        desk.edit(number, edits[1:])
        self.assertEqual(store.heard, [])
        desk.commit(number)
        self.assertEqual(store.heard, [(1, edits)])

    def test_no_write_at_all(self):
        """Neither for a commit without edits, nor for one that is refused, nor for an abort."""
        store = Listening(SCHEMA)
        store.write(0, [person(1)])
        desk = Desk(store)
        without, refused, given_up = desk.begin(0), desk.begin(0), desk.begin(0)
        desk.edit(without, [])
        desk.read(refused, "person", 1)
        desk.edit(refused, [person(2)])
        desk.edit(given_up, [person(2)])
        store.write(0, [("delete", "person", 1)])
        store.heard.clear()
        desk.commit(without)
        with self.assertRaises(TransactionError):
            desk.commit(refused)
        desk.abort(given_up)
        self.assertEqual(store.heard, [])


class MeanwhileTest(unittest.TestCase):
    def test_the_home_may_go_elsewhere_meanwhile(self):
        store = Stored(SCHEMA)
        store.write(0, [person(1, "al b"), person(2, "c d")])
        store.evolve(0, [SPLIT])
        desk = Desk(store)
        first, second = desk.begin(0), desk.begin(1)
        desk.scan(first, "person")
        desk.edit(first, [("set", "person", 1, "age", 31)])
        desk.edit(second, [("set", "person", 2, "first", "z")])
        go_home(store, 1)
        desk.commit(first)
        store.begin_move(0)
        store.advance(1)
        desk.commit(second)
        self.assertEqual(store.show(0)["person"], {1: ("al b", 31), 2: ("z d", 20)})
        self.assertEqual(store.move_view(), (0, ("person", 1), {"person": {1: ("al b", 31)}}))


if __name__ == "__main__":
    unittest.main()
