"""Point 57: the journal."""

import unittest

from lenstree.journal import frame, records_of
from lenstree.records import pack
from lenstree.stored import Stored
from tests.store_case import SCHEMA, SPLIT
from tests.support import called, containers, wreck

IMAGE = ("image", 3, Stored(SCHEMA).image())
RECORDS = [
    IMAGE, ("evolve", 0, [SPLIT]), ("write", 1, [("insert", "person", (1, "a", "b", 3))]), ("write", 0, []),
    ("prune", 0), ("rebase", 2, 1), ("begin_move", 1), ("advance", 7), ("stop_move",),
]


class FrameTest(unittest.TestCase):
    def test_the_bytes(self):
        self.assertEqual(called(self, frame, ("stop_move",)),
                         [0, 0, 0, 15, 6, 0, 1, 5, 0, 9] + [ord(letter) for letter in "stop_move"])
        self.assertEqual(frame(("prune", -1)), [0, 0, 0, 16, 6, 0, 2, 5, 0, 5, 112, 114, 117, 110, 101, 4, 0, 0, 0, 1])
        self.assertEqual(frame(()), [0, 0, 0, 3, 6, 0, 0])
        self.assertIs(type(frame(())), list)

    def test_the_length(self):
        for record in RECORDS + [("write", 0, ["x" * 65000] * 3)]:
            packed = pack(record)
            length = len(packed)
            head = [length // 2 ** 24, length // 65536 - 256 * (length // 2 ** 24), length // 256 & 255, length & 255]
            self.assertEqual(called(self, frame, record), head + packed)


class RecordsTest(unittest.TestCase):
    def test_several_frames(self):
        for many in range(len(RECORDS) + 1):
            numbers = [number for record in RECORDS[:many] for number in frame(record)]
            self.assertEqual(called(self, records_of, numbers), RECORDS[:many])

    def test_an_empty_area(self):
        self.assertEqual(records_of([]), [])
        self.assertIsNot(records_of([]), records_of([]))

    def test_cut_off_at_every_place(self):
        frames = [frame(record) for record in RECORDS[1:]]
        numbers = [number for one in frames for number in one]
        ends = [sum([len(one) for one in frames[:many]]) for many in range(len(frames) + 1)]
        for cut in range(len(numbers) + 1):
            complete = len([end for end in ends if end <= cut]) - 1
            self.assertEqual(records_of(numbers[:cut]), RECORDS[1:1 + complete])

    def test_a_frame_that_is_just_complete(self):
        one = frame(("prune", 4))
        self.assertEqual(records_of(one), [("prune", 4)])
        self.assertEqual(records_of(one[:-1]), [])
        self.assertEqual(records_of(one + [0, 0, 0]), [("prune", 4)])
        self.assertEqual(records_of(one + [0, 0, 0, 1]), [("prune", 4)])
        self.assertEqual(records_of(one + [0, 0, 0, 1, 0]), [("prune", 4), None])

    def test_what_ends_within_a_frame_is_not_looked_at(self):
        one = frame(("prune", 4))
        self.assertEqual(records_of(one + [0, 0, 0, 9, 255, 255, 255]), [("prune", 4)])
        self.assertEqual(records_of([255, 255, 255, 255, 9]), [])

    def test_a_long_frame(self):
        record = ("write", 0, ["x" * 65000] * 3)
        self.assertEqual(records_of(frame(record) + frame(())), [record, ()])

    def test_what_is_handed_out_can_be_changed(self):
        numbers = frame(IMAGE)
        first, second = records_of(numbers), records_of(numbers)
        self.assertEqual(containers(first) & containers(second), set())
        wreck(first)
        self.assertEqual(records_of(numbers), [IMAGE])
        record = ("evolve", 0, [SPLIT])
        numbers = frame(record)
        wreck(record)
        self.assertEqual(records_of(numbers), [("evolve", 0, [SPLIT])])


if __name__ == "__main__":
    unittest.main()
