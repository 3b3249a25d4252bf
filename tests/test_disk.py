"""Points 55 and 56: the disk, its power, and restarts."""

import itertools
import unittest

from lenstree.disk import Disk
from lenstree.errors import PowerError


def look(disk):
    """Return all that can be seen of a disk."""
    return [(disk.contents(area), disk.durable(area)) for area in (0, 1)]


class DiskCase(unittest.TestCase):
    def disk(self, units=None):
        """Return a disk with durable bytes and others in both areas, and this much power."""
        disk = Disk()
        disk.append(0, [1, 2])
        disk.sync(0)
        disk.append(0, [3, 4, 5])
        disk.append(1, [255, 0])
        if units is not None:
            disk.limit_power(units)
        return disk

    def is_down(self, disk):
        """See that each act on the disk raises PowerError and does nothing."""
        before = look(disk)
        for _ in range(2):
            for area in (0, 1):
                for method, arguments in (("append", ([7],)), ("append", ([],)), ("sync", ()), ("wipe", ())):
                    self.fails(disk, method, area, *arguments)
            # It stays down, whatever power it is given.
            disk.limit_power(100)
        self.assertEqual(look(disk), before)

    def fails(self, disk, method, *arguments):
        with self.assertRaises(PowerError) as caught:
            getattr(disk, method)(*arguments)
        self.assertIs(type(caught.exception), PowerError)
        self.assertEqual(vars(caught.exception), {})


class ActsTest(DiskCase):
    def test_a_new_disk(self):
        self.assertEqual(look(Disk()), [([], 0), ([], 0)])

    def test_append(self):
        disk = Disk()
        self.assertIsNone(disk.append(0, [5, 6]))
        self.assertEqual(look(disk), [([5, 6], 0), ([], 0)])
        disk.append(0, [7])
        disk.append(1, [])
        disk.append(1, [0, 255])
        self.assertEqual(look(disk), [([5, 6, 7], 0), ([0, 255], 0)])

    def test_sync(self):
        disk = self.disk()
        self.assertEqual(look(disk), [([1, 2, 3, 4, 5], 2), ([255, 0], 0)])
        self.assertIsNone(disk.sync(0))
        self.assertEqual(look(disk), [([1, 2, 3, 4, 5], 5), ([255, 0], 0)])
        disk.sync(0)
        disk.sync(1)
        self.assertEqual(look(disk), [([1, 2, 3, 4, 5], 5), ([255, 0], 2)])
        disk.append(1, [9])
        self.assertEqual(look(disk), [([1, 2, 3, 4, 5], 5), ([255, 0, 9], 2)])

    def test_wipe(self):
        disk = self.disk()
        self.assertIsNone(disk.wipe(0))
        self.assertEqual(look(disk), [([], 0), ([255, 0], 0)])
        disk.append(0, [8])
        disk.wipe(1)
        self.assertEqual(look(disk), [([8], 0), ([], 0)])
        disk.sync(0)
        disk.wipe(0)
        disk.wipe(0)
        self.assertEqual(look(disk), [([], 0), ([], 0)])

    def test_what_is_handed_in_and_out_can_be_changed(self):
        disk = Disk()
        numbers = [1, 2]
        disk.append(0, numbers)
        numbers.append(3)
        self.assertEqual(disk.contents(0), [1, 2])
        disk.contents(0).append(3)
        self.assertEqual(disk.contents(0), [1, 2])
        self.assertIsNot(disk.contents(0), disk.contents(0))
        self.assertEqual(numbers, [1, 2, 3])


class PowerTest(DiskCase):
    def test_append(self):
        for units in range(6):
            disk = self.disk(units)
            with self.subTest(units=units):
                if units < 3:
                    self.fails(disk, "append", 1, [7, 8, 9])
                    self.assertEqual(look(disk), [([1, 2, 3, 4, 5], 2), ([255, 0] + [7, 8, 9][:units], 0)])
                    self.is_down(disk)
                else:
                    disk.append(1, [7, 8, 9])
                    self.assertEqual(look(disk), [([1, 2, 3, 4, 5], 2), ([255, 0, 7, 8, 9], 0)])
                    # What is left is just enough for so many syncs.
                    for _ in range(units - 3):
                        disk.sync(0)
                    self.fails(disk, "sync", 1)
                    self.is_down(disk)

    def test_sync_and_wipe(self):
        for method, after in (("sync", [([1, 2, 3, 4, 5], 5), ([255, 0], 0)]), ("wipe", [([], 0), ([255, 0], 0)])):
            disk = self.disk(0)
            before = look(disk)
            self.fails(disk, method, 0)
            self.assertEqual(look(disk), before)
            self.is_down(disk)
            disk = self.disk(1)
            getattr(disk, method)(0)
            self.assertEqual(look(disk), after)
            self.fails(disk, "wipe", 1)
            self.assertEqual(look(disk), after)
            self.is_down(disk)

    def test_nothing_to_append(self):
        """It takes no unit, so it cannot fail for want of one."""
        disk = self.disk(0)
        self.assertIsNone(disk.append(0, []))
        disk.limit_power(1)
        disk.append(1, [])
        disk.append(1, [3])
        self.assertEqual(disk.contents(1), [255, 0, 3])
        self.fails(disk, "append", 1, [4])
        self.is_down(disk)

    def test_without_limit(self):
        disk = Disk()
        for _ in range(100):
            disk.append(0, [1] * 1000)
            disk.sync(0)
        self.assertEqual((len(disk.contents(0)), disk.durable(0)), (100000, 100000))

    def test_limit_power(self):
        disk = self.disk(1)
        self.assertIsNone(disk.limit_power(4))
        disk.append(0, [6, 7])
        # From now on there are so many units, whatever was left.
        disk.limit_power(1)
        self.fails(disk, "append", 0, [8, 9])
        self.assertEqual(disk.contents(0), [1, 2, 3, 4, 5, 6, 7, 8])
        self.is_down(disk)
        self.assertIsNone(disk.limit_power(0))
        self.assertIsNone(disk.limit_power(50))
        self.is_down(disk)

    def test_no_power_at_all(self):
        """A disk is up until an act fails."""
        disk = self.disk(0)
        disk.limit_power(1)
        disk.sync(1)
        self.assertEqual(disk.durable(1), 2)

    def test_many_orders_of_acts(self):
        """Each act takes its units, until there are too few."""
        acts = {"append": ([1, 2],), "sync": (), "wipe": ()}
        costs = {"append": 2, "sync": 1, "wipe": 1}
        for names in itertools.product(acts, repeat=3):
            for units in range(8):
                disk = self.disk(units)
                left = units
                for name in names:
                    if left < costs[name]:
                        self.fails(disk, name, 0, *acts[name])
                        self.is_down(disk)
                        break
                    getattr(disk, name)(0, *acts[name])
                    left -= costs[name]


class RestartTest(DiskCase):
    def test_some_of_the_other_bytes(self):
        for count, first, second in ((0, 2, 0), (1, 3, 1), (2, 4, 2), (3, 5, 2), (4, 5, 2), (1000, 5, 2)):
            disk = self.disk()
            before = look(disk)
            restarted = disk.restarted(count)
            with self.subTest(count=count):
                self.assertIs(type(restarted), Disk)
                self.assertEqual(look(restarted), [([1, 2, 3, 4, 5][:first], first), ([255, 0][:second], second)])
                self.assertEqual(look(disk), before)

    def test_a_disk_that_is_down(self):
        disk = self.disk(2)
        self.fails(disk, "append", 1, [7, 8, 9])
        before = look(disk)
        for count in range(6):
            restarted = disk.restarted(count)
            self.assertEqual(look(restarted), [([1, 2, 3, 4, 5][:2 + count], min(2 + count, 5)),
                                               ([255, 0, 7, 8][:count], min(count, 4))])
            # It has power without limit.
            restarted.append(0, [1] * 500)
            restarted.wipe(1)
            self.assertEqual(look(disk), before)
        self.is_down(disk)

    def test_neither_changes_the_other(self):
        disk = self.disk()
        restarted = disk.restarted(1)
        disk.append(0, [6])
        disk.sync(0)
        disk.limit_power(0)
        restarted.append(0, [9])
        restarted.wipe(1)
        self.assertEqual(look(disk), [([1, 2, 3, 4, 5, 6], 6), ([255, 0], 0)])
        self.assertEqual(look(restarted), [([1, 2, 3, 9], 3), ([], 0)])

    def test_again(self):
        """All that a restarted disk has is durable."""
        restarted = self.disk().restarted(1).restarted(0)
        self.assertEqual(look(restarted), [([1, 2, 3], 3), ([255], 1)])
        self.assertEqual(look(Disk().restarted(5)), [([], 0), ([], 0)])

    def test_a_limit_that_has_not_failed_yet(self):
        restarted = self.disk(1).restarted(0)
        restarted.append(0, [1] * 50)
        self.assertEqual(len(restarted.contents(0)), 52)


if __name__ == "__main__":
    unittest.main()
