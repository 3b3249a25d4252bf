"""Points 48 to 50: the tests of transactions that a Desk over any kind of store must pass.

A test class below DeskCase takes them over. It has the method `made`, which makes a new store of a schema.
"""

import copy
import unittest

from lenstree.errors import EditError, RejectedError, TransactionError, VersionError
from lenstree.transactions import Desk
from tests.store_case import AL, BO, GROWN, PERSON, SCHEMA, SPLIT, view
from tests.support import containers, described, wreck

WORD = described([("word", "text", False), ("size", "int", True)])
TWO = {"person": PERSON, "word": WORD}


def person(key, name="x", age=20):
    """Return an edit that inserts a person."""
    return ("insert", "person", (key, name, age))


class DeskCase(unittest.TestCase):
    def store(self, *scripts):
        """Return a store with two people and two words whose further versions are all below the root."""
        store = self.made(TWO)
        store.write(0, [AL, BO, ("insert", "word", ("b", 1)), ("insert", "word", ("a", None))])
        for script in scripts:
            store.evolve(0, script)
        return store

    def desk(self, *scripts):
        """Return such a store and a desk over it."""
        store = self.store(*scripts)
        return store, Desk(store)

    def refuses(self, error, fields, desk, method, *arguments):
        """See that a call of a desk raises the error with these fields."""
        held = copy.deepcopy(arguments)
        with self.assertRaises(error) as caught:
            getattr(desk, method)(*arguments)
        self.assertIs(type(caught.exception), error)
        self.assertEqual(vars(caught.exception), fields)
        self.assertEqual(arguments, held)

    def closed(self, desk, number):
        """See that there is no open transaction with this number."""
        self.assertNotIn(number, desk.open_numbers())
        for method, *arguments in (("read", "person", 1), ("read", "nowhere", None), ("scan", "person"),
                                   ("scan", "nowhere"), ("edit", []), ("edit", [BO] * 25), ("commit",), ("abort",)):
            self.refuses(TransactionError, {"code": "closed"}, desk, method, number, *arguments)

    def no_edit(self, desk, number, code, index, *edits):
        self.refuses(EditError, {"code": code, "index": index}, desk, "edit", number, list(edits))

    def edits(self, desk, number, *edits):
        self.assertIsNone(desk.edit(number, list(edits)))

    def commits(self, desk, number):
        self.assertIsNone(desk.commit(number))
        self.closed(desk, number)

    def no_commit(self, store, desk, number, code):
        """See that a commit is refused, does nothing, and ends the transaction."""
        before = copy.deepcopy(view(store))
        self.refuses(TransactionError, {"code": code}, desk, "commit", number)
        self.assertEqual(view(store), before)
        self.closed(desk, number)


class NumberTests:
    def test_numbers_are_never_given_twice(self):
        store, desk = self.desk([SPLIT])
        self.assertEqual(desk.open_numbers(), [])
        self.assertEqual([desk.begin(version) for version in (0, 1, 0, 1)], [0, 1, 2, 3])
        self.assertEqual(desk.open_numbers(), [0, 1, 2, 3])
        self.commits(desk, 3)
        self.assertIsNone(desk.abort(1))
        self.assertEqual(desk.open_numbers(), [0, 2])
        self.assertEqual([desk.begin(0), desk.begin(1)], [4, 5])
        self.assertEqual(desk.open_numbers(), [0, 2, 4, 5])
        for number in (5, 4, 2, 0):
            desk.abort(number)
        self.assertEqual(desk.open_numbers(), [])
        self.assertEqual(desk.begin(1), 6)
        # Another desk counts by itself.
        self.assertEqual(Desk(store).begin(0), 0)

    def test_begin_asks_for_a_live_version(self):
        store, desk = self.desk([SPLIT], [])
        store.evolve(1, [])
        store.prune(1)
        self.assertEqual(store.tree.nodes(), [0, 1, 2, 3])
        for version in (1, 4, -1):
            self.refuses(VersionError, {"code": "missing"}, desk, "begin", version)
        self.assertEqual(desk.open_numbers(), [])
        self.assertEqual(desk.begin(3), 0)

    def test_closed(self):
        _, desk = self.desk()
        for number in (0, 1, -1):
            self.closed(desk, number)
        for _ in range(3):
            desk.begin(0)
        self.closed(desk, 3)
        desk.commit(0)
        desk.abort(1)
        for number in (0, 1):
            self.closed(desk, number)
        self.assertEqual(desk.open_numbers(), [2])


class SnapshotTests:
    def test_reads_and_scans(self):
        _, desk = self.desk([SPLIT])
        number = desk.begin(0)
        self.assertEqual(desk.read(number, "person", 1), (1, "al b", 30))
        self.assertEqual(desk.read(number, "person", 2), (2, None, 7))
        self.assertIsNone(desk.read(number, "person", 3))
        self.assertEqual(desk.read(number, "word", "a"), ("a", None))
        self.assertIsNone(desk.read(number, "word", ""))
        self.assertEqual(desk.scan(number, "word"), [("a", None), ("b", 1)])
        self.assertEqual(desk.scan(number, "person"), [(1, "al b", 30), (2, None, 7)])
        other = desk.begin(1)
        self.assertEqual(desk.scan(other, "person"), [(1, "al", "b", 30), (2, None, None, 7)])
        self.assertEqual(desk.read(other, "person", 1), (1, "al", "b", 30))

    def test_own_edits_and_nothing_else(self):
        store, desk = self.desk([SPLIT])
        first, second, third = desk.begin(0), desk.begin(1), desk.begin(0)
        self.edits(desk, first, ("set", "person", 1, "name", "q r"), person(5))
        self.edits(desk, second, ("delete", "person", 2))
        store.write(0, [person(9), ("delete", "word", "a")])
        store.write(1, [("set", "person", 1, "age", 77)])
        self.assertEqual(desk.scan(first, "person"), [(1, "q r", 30), (2, None, 7), (5, "x", 20)])
        self.assertEqual(desk.scan(second, "person"), [(1, "al", "b", 30)])
        self.assertEqual(desk.scan(third, "person"), [(1, "al b", 30), (2, None, 7)])
        self.assertEqual(desk.scan(third, "word"), [("a", None), ("b", 1)])
        self.assertIsNone(desk.read(second, "person", 2))
        self.assertIsNone(desk.read(first, "person", 9))
        self.assertEqual(desk.read(first, "person", 5), (5, "x", 20))
        self.edits(desk, first, ("replace", "person", (5, None, 1)), ("delete", "person", 1))
        self.assertEqual(desk.scan(first, "person"), [(2, None, 7), (5, None, 1)])
        # One that begins now sees what the store shows now.
        self.assertEqual(desk.scan(desk.begin(0), "person"), [(1, "al b", 77), (2, None, 7), (9, "x", 20)])

    def test_commits_of_others_are_not_seen(self):
        _, desk = self.desk()
        first, second = desk.begin(0), desk.begin(0)
        self.edits(desk, first, person(5))
        self.commits(desk, first)
        self.assertIsNone(desk.read(second, "person", 5))
        self.assertEqual(desk.read(desk.begin(0), "person", 5), (5, "x", 20))

    def test_nothing_is_written_before_the_commit(self):
        store, desk = self.desk([SPLIT])
        before = copy.deepcopy(view(store))
        number = desk.begin(0)
        self.edits(desk, number, person(5), ("delete", "person", 1))
        self.assertEqual(view(store), before)
        desk.abort(number)
        self.assertEqual(view(store), before)
        self.closed(desk, number)

    def test_the_edits_are_one_write(self):
        """Rows that break a constraint only between the edits are no fault."""
        store, desk = self.desk([("add_unique", "person", "name")], [SPLIT])
        number = desk.begin(1)
        self.edits(desk, number, person(5, "al b", 1))
        self.edits(desk, number, ("set", "person", 1, "name", "new"))
        self.edits(desk, number, ("delete", "person", 5), person(5, "c d", 2))
        self.commits(desk, number)
        self.assertEqual(store.show(0)["person"], {1: ("new", 30), 2: (None, 7), 5: ("c d", 2)})
        self.assertEqual(store.show(2)["person"], {1: ("new", "", 30), 2: (None, None, 7), 5: ("c", "d", 2)})

    def test_a_version_that_is_pruned_is_still_seen(self):
        store, desk = self.desk([SPLIT])
        number = desk.begin(1)
        store.prune(1)
        self.assertEqual(store.tree.nodes(), [0])
        self.assertEqual(desk.read(number, "person", 1), (1, "al", "b", 30))
        self.edits(desk, number, ("set", "person", 1, "first", "z"))
        self.assertEqual(desk.scan(number, "person"), [(1, "z", "b", 30), (2, None, None, 7)])


class EditTests:
    def test_each_code(self):
        store, desk = self.desk()
        number = desk.begin(0)
        self.no_edit(desk, number, "table", 0, ("delete", "nowhere", 1))
        self.no_edit(desk, number, "key", 1, ("delete", "person", 1), ("delete", "person", 1))
        self.no_edit(desk, number, "key", 0, AL)
        self.no_edit(desk, number, "key", 0, ("delete", "person", "a"))
        self.no_edit(desk, number, "row", 2, person(5), person(6), ("insert", "person", (7, "x", None)))
        self.no_edit(desk, number, "row", 0, ("set", "person", 1, "id", 4))
        self.edits(desk, number, person(5))
        # The index counts within the list that was given.
        self.no_edit(desk, number, "key", 0, person(5))
        self.no_edit(desk, number, "key", 1, person(6), person(5))
        self.commits(desk, number)
        self.assertEqual(sorted(store.show(0)["person"]), [1, 2, 5])

    def test_refused_edits_leave_it_as_it_was(self):
        store, desk = self.desk()
        number = desk.begin(0)
        self.edits(desk, number, person(5))
        self.no_edit(desk, number, "key", 2, ("set", "person", 1, "age", 1), ("delete", "person", 5), BO)
        self.assertEqual(desk.open_numbers(), [number])
        self.assertEqual(desk.scan(number, "person"), [(1, "al b", 30), (2, None, 7), (5, "x", 20)])
        self.commits(desk, number)
        self.assertEqual(store.show(0)["person"], {1: ("al b", 30), 2: (None, 7), 5: ("x", 20)})

    def test_the_edits_count_together(self):
        store, desk = self.desk()
        number = desk.begin(0)
        self.edits(desk, number, *[person(key) for key in range(10, 30)])
        bad = ("delete", "nowhere", 1)
        self.no_edit(desk, number, "long", 24, *[person(key) for key in range(30, 35)])
        self.no_edit(desk, number, "long", 24, *[bad] * 5)
        self.no_edit(desk, number, "table", 0, *[bad] * 4)
        self.edits(desk, number, *[person(key) for key in range(30, 34)])
        self.edits(desk, number)
        self.no_edit(desk, number, "long", 24, person(34))
        self.no_edit(desk, number, "long", 24, ("delete", "person", 33))
        self.commits(desk, number)
        self.assertEqual(sorted(store.show(0)["person"]), [1, 2] + list(range(10, 34)))
        number = desk.begin(0)
        self.no_edit(desk, number, "long", 24, *[bad] * 25)
        self.edits(desk, number, *[("delete", "person", key) for key in range(10, 34)])
        self.commits(desk, number)
        self.assertEqual(sorted(store.show(0)["person"]), [1, 2])

    def test_reads_and_scans_of_what_is_not_there(self):
        _, desk = self.desk([("rename_table", "person", "folk")])
        zero, one = desk.begin(0), desk.begin(1)
        for number, table in ((zero, "folk"), (one, "person"), (zero, "")):
            self.refuses(EditError, {"code": "table", "index": 0}, desk, "read", number, table, 1)
            self.refuses(EditError, {"code": "table", "index": 0}, desk, "read", number, table, None)
            self.refuses(EditError, {"code": "table", "index": 0}, desk, "scan", number, table)
        for table, keys in (("person", ("", "1", None, 1000000000)), ("word", (1, None, "a" * 31, "\n"))):
            for key in keys:
                self.refuses(EditError, {"code": "key", "index": 0}, desk, "read", zero, table, key)
        self.assertIsNone(desk.read(zero, "person", -999999999))
        self.assertIsNone(desk.read(zero, "word", "a" * 30))
        self.assertEqual(desk.open_numbers(), [zero, one])


class RelyTests:
    """On what a transaction relies, and on what it does not rely."""

    def tried(self, calls, writes, code, version=0):
        """Begin a transaction, do its calls, then the writes of others, and see what comes of the commit."""
        store, desk = self.desk([SPLIT])
        number = desk.begin(version)
        for method, *arguments in calls:
            getattr(desk, method)(number, *arguments)
        for far, *edits in writes:
            store.write(far, edits)
        with self.subTest(calls=calls, writes=writes):
            if code == "":
                self.commits(desk, number)
            else:
                self.no_commit(store, desk, number, code)
        return store

    def test_pairs_that_were_read(self):
        read = [("read", "person", 1)]
        for write in (("set", "person", 1, "age", 31), ("delete", "person", 1), ("set", "person", 1, "name", None)):
            self.tried(read, [(0, write)], "conflict")
        for write in (("set", "person", 2, "age", 31), ("delete", "person", 2), person(3), ("delete", "word", "a"),
                      ("replace", "person", (1, "al b", 30))):
            self.tried(read, [(0, write)], "")

    def test_pairs_without_a_row(self):
        read = [("read", "person", 5), ("read", "word", "1")]
        self.tried(read, [(0, person(5))], "conflict")
        self.tried(read, [(0, ("insert", "word", ("1", None)))], "conflict")
        self.tried(read, [(0, person(4)), (0, ("insert", "word", ("5", 5)))], "")
        self.tried(read, [(0, person(5)), (0, ("delete", "person", 5))], "")

    def test_pairs_that_edits_name(self):
        for edit in (("set", "person", 1, "age", 5), ("replace", "person", (1, "z", 1)), ("delete", "person", 1)):
            self.tried([("edit", [edit])], [(0, ("set", "person", 1, "name", "y"))], "conflict")
            self.tried([("edit", [edit])], [(0, ("delete", "person", 1))], "conflict")
            store = self.tried([("edit", [edit])], [(0, ("set", "person", 2, "name", "y"))], "")
            self.assertEqual(store.show(0)["person"][2], ("y", 7))
        self.tried([("edit", [person(5)])], [(0, person(5))], "conflict")
        self.tried([("edit", [person(5)])], [(0, person(6))], "")
        # A later edit that takes back an earlier one changes nothing about this.
        self.tried([("edit", [person(5)]), ("edit", [("delete", "person", 5)])], [(0, person(5))], "conflict")
        self.tried([("edit", []), ("edit", [person(6), person(5)])], [(0, person(5))], "conflict")

    def test_tables_that_were_scanned(self):
        scan = [("scan", "person")]
        for write in (person(5), ("delete", "person", 2), ("set", "person", 1, "age", 5)):
            self.tried(scan, [(0, write)], "conflict")
        self.tried(scan, [(0, ("delete", "word", "a")), (0, ("insert", "word", ("1", 1)))], "")
        self.tried([("scan", "word")], [(0, ("delete", "person", 1)), (0, person(5))], "")
        self.tried([("scan", "word")], [(0, ("set", "word", "a", "size", 1))], "conflict")
        self.tried(scan, [(0, person(5)), (0, ("delete", "person", 5))], "")

    def test_nothing_at_all(self):
        self.tried([], [(0, ("delete", "person", 1)), (0, person(7))], "")
        self.tried([("edit", [])], [(0, ("delete", "person", 1)), (0, person(7))], "")

    def test_writes_through_other_versions(self):
        self.tried([("read", "person", 1)], [(1, ("set", "person", 1, "first", "z"))], "conflict")
        self.tried([("read", "person", 1)], [(1, ("set", "person", 2, "first", "z"))], "")
        self.tried([("scan", "person")], [(0, person(5))], "conflict", 1)
        self.tried([("read", "person", 1)], [(0, ("set", "person", 1, "age", 1))], "conflict", 1)
        self.tried([("edit", [("set", "person", 2, "age", 1)])], [(0, ("set", "person", 1, "age", 1))], "", 1)

    def test_rows_that_another_version_hides(self):
        """The commit compares the states of the own version, not those of others."""
        store, desk = self.desk([GROWN])
        number = desk.begin(1)
        desk.scan(number, "person")
        store.write(0, [("set", "person", 2, "age", 8), person(5, "x", 3)])
        self.edits(desk, number, ("set", "person", 1, "age", 31))
        self.commits(desk, number)
        self.assertEqual(store.show(0)["person"], {1: ("al b", 31), 2: (None, 8), 5: ("x", 3)})

    def test_the_snapshot_counts_and_not_the_own_edits(self):
        """Another one makes the very row that the transaction made: the snapshot has it not."""
        self.tried([("edit", [person(5)])], [(0, person(5))], "conflict")
        self.tried([("edit", [("set", "person", 1, "age", 5)])], [(0, ("set", "person", 1, "age", 5))], "conflict")
        # Own edits alone are no conflict with what was read or scanned before or behind them.
        calls = [("scan", "person"), ("edit", [person(5)]), ("scan", "person"), ("read", "person", 5)]
        store = self.tried(calls, [], "")
        self.assertIn(5, store.show(0)["person"])

    def test_calls_that_raise_add_nothing(self):
        store, desk = self.desk()
        number = desk.begin(0)
        self.no_edit(desk, number, "key", 2, ("set", "person", 1, "age", 1), person(5), BO)
        self.no_edit(desk, number, "table", 1, ("delete", "person", 2), ("delete", "nowhere", 2))
        self.refuses(EditError, {"code": "table", "index": 0}, desk, "scan", number, "nowhere")
        self.refuses(EditError, {"code": "key", "index": 0}, desk, "read", number, "person", "1")
        self.no_edit(desk, number, "long", 24, *[("set", "person", 1, "age", 1)] * 25)
        store.write(0, [("delete", "person", 1), person(5), ("set", "person", 2, "age", 9)])
        self.edits(desk, number, person(6))
        self.commits(desk, number)
        self.assertEqual(sorted(store.show(0)["person"]), [2, 5, 6])

    def test_two_transactions(self):
        store, desk = self.desk([SPLIT])
        first, second, third = desk.begin(0), desk.begin(1), desk.begin(0)
        self.edits(desk, first, ("set", "person", 1, "age", 31))
        self.edits(desk, second, ("set", "person", 1, "first", "z"))
        self.edits(desk, third, ("set", "person", 2, "age", 8))
        self.commits(desk, second)
        self.no_commit(store, desk, first, "conflict")
        self.commits(desk, third)
        self.assertEqual(store.show(0)["person"], {1: ("z b", 30), 2: (None, 8)})


class GoneTests:
    def test_pruned(self):
        store, desk = self.desk([SPLIT], [])
        store.evolve(1, [])
        numbers = [desk.begin(version) for version in (1, 1, 1, 3, 2)]
        desk.read(numbers[0], "person", 1)
        self.edits(desk, numbers[1], ("set", "person", 1, "first", "z"))
        store.write(0, [("set", "person", 1, "age", 99)])
        store.prune(1)
        # The node is still there, but it is not live.
        self.assertIn(1, store.tree.nodes())
        for number in numbers[:3]:
            self.no_commit(store, desk, number, "gone")
        store.prune(3)
        self.assertEqual(store.tree.nodes(), [0, 2])
        self.no_commit(store, desk, numbers[3], "gone")
        self.commits(desk, numbers[4])

    def test_an_abort_of_a_transaction_whose_version_is_gone(self):
        store, desk = self.desk([SPLIT])
        number = desk.begin(1)
        store.prune(1)
        self.assertIsNone(desk.abort(number))
        self.closed(desk, number)

    def test_a_rebase_that_changes_the_schema(self):
        store, desk = self.desk([("rename_column", "person", "age", "years")], [SPLIT])
        store.evolve(2, [])
        numbers = [desk.begin(version) for version in (2, 3, 3, 1, 0)]
        desk.read(numbers[2], "person", 1)
        store.rebase(2, 1)
        store.write(0, [("set", "person", 1, "age", 99)])
        for number in numbers[:3]:
            self.no_commit(store, desk, number, "gone")
        for number in numbers[3:]:
            self.commits(desk, number)

    def test_a_rebase_that_leaves_the_schema_equal(self):
        store, desk = self.desk([("convert", "person", "age", "int", False)], [])
        numbers = [desk.begin(2) for _ in range(2)]
        self.edits(desk, numbers[0], ("set", "person", 1, "age", 31))
        self.edits(desk, numbers[1], ("set", "person", 2, "age", 8))
        store.rebase(2, 1)
        self.commits(desk, numbers[0])
        self.assertEqual(store.show(0)["person"][1], ("al b", 31))
        store.write(1, [("set", "person", 2, "age", 9)])
        self.no_commit(store, desk, numbers[1], "conflict")

    def test_a_rebase_there_and_back(self):
        store, desk = self.desk([("rename_column", "person", "age", "years")], [SPLIT])
        number = desk.begin(2)
        self.edits(desk, number, ("set", "person", 1, "first", "z"))
        store.rebase(2, 1)
        store.rebase(2, 0)
        self.commits(desk, number)
        self.assertEqual(store.show(1)["person"][1], ("z b", 30))

    def test_a_rebase_that_hides_rows(self):
        """The schema that a scan relies on is as before, but its rows are not."""
        store, desk = self.desk([SPLIT], [GROWN, ("drop_check", "person", GROWN[2])])
        first, second = desk.begin(1), desk.begin(1)
        desk.scan(first, "person")
        desk.read(second, "person", 1)
        store.rebase(1, 2)
        self.assertEqual(store.show(1)["person"], {1: ("al", "b", 30)})
        self.no_commit(store, desk, first, "conflict")
        self.commits(desk, second)


class CommitTests:
    def test_a_commit_that_is_rejected(self):
        store, desk = self.desk([GROWN])
        first, second, third = desk.begin(1), desk.begin(1), desk.begin(1)
        self.edits(desk, first, ("set", "person", 1, "age", 3), person(5))
        self.edits(desk, second, person(5), person(2))
        self.edits(desk, third, person(5))
        before = copy.deepcopy(view(store))
        for number, fields in (
            (first, {"version": 1, "code": "check", "table": "person", "key": 1}),
            (second, {"version": 0, "code": "hidden", "table": "person", "key": 2}),
        ):
            self.refuses(RejectedError, fields, desk, "commit", number)
            self.assertEqual(view(store), before)
            self.closed(desk, number)
        self.assertEqual(desk.open_numbers(), [third])
        self.commits(desk, third)

    def test_a_conflict_is_found_before_a_rejection(self):
        store, desk = self.desk([GROWN])
        number = desk.begin(1)
        self.edits(desk, number, ("set", "person", 1, "age", 3))
        store.write(0, [("set", "person", 1, "age", 40)])
        self.no_commit(store, desk, number, "conflict")

    def test_without_edits(self):
        store, desk = self.desk([SPLIT])
        before = copy.deepcopy(view(store))
        number = desk.begin(1)
        desk.scan(number, "person")
        self.edits(desk, number)
        self.commits(desk, number)
        self.assertEqual(view(store), before)

    def test_edits_that_change_nothing(self):
        store, desk = self.desk([SPLIT])
        before = copy.deepcopy(view(store))
        number = desk.begin(0)
        self.edits(desk, number, person(5), ("delete", "person", 5), ("replace", "person", (1, "al b", 30)))
        self.commits(desk, number)
        self.assertEqual(view(store), before)


class ArgumentTests:
    def test_what_is_handed_in_can_be_changed(self):
        store, desk = self.desk()
        number = desk.begin(0)
        edits = [person(5), person(6)]
        desk.edit(number, edits)
        wreck(edits)
        more = [person(7)]
        desk.edit(number, more)
        more.append(person(8))
        self.assertEqual([row[0] for row in desk.scan(number, "person")], [1, 2, 5, 6, 7])
        self.commits(desk, number)
        self.assertEqual(sorted(store.show(0)["person"]), [1, 2, 5, 6, 7])

    def test_what_is_handed_out_can_be_changed(self):
        _, desk = self.desk()
        number = desk.begin(0)
        wreck(desk.scan(number, "person"))
        wreck(desk.open_numbers())
        self.assertEqual(desk.scan(number, "person"), [(1, "al b", 30), (2, None, 7)])
        self.assertEqual(desk.open_numbers(), [number])
        first, second = desk.scan(number, "word"), desk.scan(number, "word")
        self.assertEqual(containers(first) & containers(second), set())
        first, second = desk.open_numbers(), desk.open_numbers()
        self.assertIsNot(first, second)

    def test_what_the_store_hands_out_can_be_changed(self):
        store, desk = self.desk([SPLIT])
        number = desk.begin(1)
        for thing in (store.show(1), store.tree.schema(1)):
            wreck(thing)
        self.edits(desk, number, ("set", "person", 1, "first", "z"))
        self.commits(desk, number)

    def test_empty_schemas(self):
        store = self.made({})
        desk = Desk(store)
        number = desk.begin(0)
        self.refuses(EditError, {"code": "table", "index": 0}, desk, "scan", number, "person")
        self.commits(desk, number)


TESTS = (NumberTests, SnapshotTests, EditTests, RelyTests, GoneTests, CommitTests, ArgumentTests)


def desk_cases(make, word):
    """Return the classes with the tests of a desk over any store, by their names; `make` makes a store of a schema."""
    return {word + tests.__name__: type(word + tests.__name__, (tests, DeskCase),
                                        {"made": lambda self, schema: make(schema)}) for tests in TESTS}
