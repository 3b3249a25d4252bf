"""Points 53 and 54: records, their packed form, and lists of bytes that are no packed form."""

import random
import unittest

from lenstree.errors import RecordError
from lenstree.records import pack, unpack
from tests.support import called, containers, raised, wreck

GREATEST = 4294967295
LETTERS = [chr(code) for code in range(32, 127) if code != 37]

PACKED = [
    (None, [0]),
    (False, [1]),
    (True, [2]),
    (0, [3, 0, 0, 0, 0]),
    (1, [3, 0, 0, 0, 1]),
    (256, [3, 0, 0, 1, 0]),
    (305419896, [3, 18, 52, 86, 120]),
    (GREATEST, [3, 255, 255, 255, 255]),
    (-1, [4, 0, 0, 0, 1]),
    (-65536, [4, 0, 1, 0, 0]),
    (-GREATEST, [4, 255, 255, 255, 255]),
    ("", [5, 0, 0]),
    (" ~", [5, 0, 2, 32, 126]),
    ("1", [5, 0, 1, 49]),
    ("a" * 300, [5, 1, 44] + [97] * 300),
    ((), [6, 0, 0]),
    ([], [7, 0, 0]),
    ({}, [8, 0, 0]),
    ((None,), [6, 0, 1, 0]),
    ([True, False], [7, 0, 2, 2, 1]),
    ([(), []], [7, 0, 2, 6, 0, 0, 7, 0, 0]),
    ({1: None}, [8, 0, 1, 3, 0, 0, 0, 1, 0]),
    ({"b": 1, "a": (), -2: [], 3: {}, -7: True, "": False, "B": None}, [
        8, 0, 7, 4, 0, 0, 0, 7, 2, 4, 0, 0, 0, 2, 7, 0, 0, 3, 0, 0, 0, 3, 8, 0, 0, 5, 0, 0, 1, 5, 0, 1, 66, 0,
        5, 0, 1, 97, 6, 0, 0, 5, 0, 1, 98, 3, 0, 0, 0, 1]),
    (("a", -2, {}), [6, 0, 3, 5, 0, 1, 97, 4, 0, 0, 0, 2, 8, 0, 0]),
]

# Lists of bytes that are no packed form, with the index of the first byte that shows it.
WRONG = [
    # The list ends too early.
    ([], 0),
    ([3], 1),
    ([3, 0, 0, 0], 4),
    ([4, 0, 0, 0], 4),
    ([5], 1),
    ([5, 0], 2),
    ([5, 0, 2, 97], 4),
    ([6, 0], 2),
    ([6, 0, 1], 3),
    ([7, 0, 2, 0], 4),
    ([8, 0, 1], 3),
    ([8, 0, 1, 5, 0, 0], 6),
    ([8, 0, 2, 5, 0, 0, 1], 7),
    ([6, 0, 1, 6, 0, 1, 3, 0], 8),
    # A first byte that is above 8.
    ([9], 0),
    ([255, 0], 0),
    ([6, 0, 1, 9], 3),
    ([7, 0, 2, 0, 37], 4),
    ([8, 0, 1, 9], 3),
    ([8, 0, 1, 5, 0, 0, 9], 6),
    # An integer that is packed with 4 and is 0.
    ([4, 0, 0, 0, 0], 0),
    ([6, 0, 2, 0, 4, 0, 0, 0, 0], 4),
    ([8, 0, 1, 4, 0, 0, 0, 0, 0], 3),
    # A byte that is not the code of a character that may stand in a text.
    ([5, 0, 1, 31], 3),
    ([5, 0, 1, 127], 3),
    ([5, 0, 1, 37], 3),
    ([5, 0, 3, 97, 0, 97], 4),
    ([5, 0, 3, 97, 97, 255], 5),
    ([6, 0, 1, 5, 0, 1, 10], 6),
    # A key of a dict that is not an integer or a string.
    ([8, 0, 1, 0, 0], 3),
    ([8, 0, 1, 1, 0], 3),
    ([8, 0, 1, 2, 0], 3),
    ([8, 0, 1, 6, 0, 0, 0], 3),
    ([8, 0, 1, 7, 0, 0, 0], 3),
    ([8, 0, 1, 8, 0, 0, 0], 3),
    ([8, 0, 1, 6, 0, 1, 3, 0, 0, 0, 1, 0], 3),
    ([8, 0, 2, 3, 0, 0, 0, 1, 0, 2, 0], 9),
    # A key that is not greater than the key before it.
    ([8, 0, 2, 3, 0, 0, 0, 1, 0, 3, 0, 0, 0, 1, 0], 9),
    ([8, 0, 2, 3, 0, 0, 0, 1, 0, 3, 0, 0, 0, 0, 0], 9),
    ([8, 0, 2, 3, 0, 0, 0, 0, 0, 4, 0, 0, 0, 1, 0], 9),
    ([8, 0, 2, 4, 0, 0, 0, 1, 0, 4, 0, 0, 0, 2, 0], 9),
    ([8, 0, 2, 5, 0, 0, 0, 3, 0, 0, 0, 1, 0], 7),
    ([8, 0, 2, 5, 0, 1, 98, 0, 5, 0, 1, 97, 0], 8),
    ([8, 0, 2, 5, 0, 1, 97, 0, 5, 0, 1, 97, 0], 8),
    ([8, 0, 2, 5, 0, 1, 97, 0, 5, 0, 0, 0], 8),
    # Bytes behind the packed form.
    ([0, 0], 1),
    ([3, 0, 0, 0, 1, 9], 5),
    ([5, 0, 1, 97, 97], 4),
    ([6, 0, 1, 0, 0], 4),
    ([8, 0, 0, 0, 0, 0], 3),
    # Two that are wrong: the first one counts.
    ([6, 0, 2, 9, 10], 3),
    ([5, 0, 9, 97, 0], 4),
    ([5, 0, 2, 0, 0], 3),
    ([6, 0, 2, 5, 0, 1, 0, 9], 6),
    ([7, 0, 2, 4, 0, 0, 0, 0, 9], 3),
    ([8, 0, 1, 5, 0, 1, 0, 9], 6),
    ([0, 9, 9], 1),
    # A key is looked at when it has been read: what is wrong within it comes first.
    ([8, 0, 1, 6, 0, 1, 9, 0], 6),
    ([8, 0, 1, 7, 0, 1], 6),
    ([8, 0, 1, 8, 0, 1, 0, 0, 0], 6),
    ([8, 0, 2, 5, 0, 1, 98, 0, 5, 0, 1, 10, 0], 11),
    ([8, 0, 2, 5, 0, 1, 98, 0, 5, 0, 2, 97], 12),
    ([8, 0, 2, 3, 0, 0, 0, 1, 0, 3, 0, 0, 0], 13),
    # Its item is read behind it.
    ([8, 0, 1, 0, 9], 3),
    ([8, 0, 2, 3, 0, 0, 0, 1, 9, 2, 0], 8),
    ([8, 0, 2, 3, 0, 0, 0, 1, 0, 3, 0, 0, 0, 1], 9),
]


def nested(data, many):
    """Return data within so many tuples, lists and dicts."""
    for number in range(many):
        data = ((data,), [data], {"k": data})[number - 3 * (number // 3)]
    return data


def same_kinds(one, other):
    """Tell whether two pieces of data are equal and of equal kinds throughout."""
    if type(one) is not type(other) or one != other:
        return False
    if isinstance(one, dict):
        keys, others = sorted(one, key=repr), sorted(other, key=repr)
        return all([same_kinds(a, b) and same_kinds(one[a], other[b]) for a, b in zip(keys, others)])
    if isinstance(one, (tuple, list)):
        return all([same_kinds(a, b) for a, b in zip(one, other)])
    return True


def any_data(source, deep):
    """Return any data that is nested at most so deep."""
    draw = source.randrange(9 if deep else 6)
    if draw < 3:
        return (None, True, False)[draw]
    if draw == 3:
        return source.choice((0, 1, -1, 255, 256, -65536, GREATEST, -GREATEST, source.randrange(-999, 999)))
    if draw < 6:
        return "".join(source.choices(LETTERS, k=source.choice((0, 1, 2, 5))))
    items = [any_data(source, deep - 1) for _ in range(source.randrange(4))]
    if draw == 6:
        return tuple(items)
    if draw == 7:
        return items
    keys = source.sample([-5, -1, 0, 3, 10, GREATEST, "", "a", "B", "1", "10", "~"], len(items))
    return dict(zip(keys, items))


class PackTest(unittest.TestCase):
    def test_each_row_of_the_table(self):
        for data, numbers in PACKED:
            with self.subTest(data=data):
                found = called(self, pack, data)
                self.assertEqual(found, numbers)
                self.assertIs(type(found), list)
                self.assertTrue(all([type(number) is int for number in found]))

    def test_each_character(self):
        for letter in LETTERS:
            self.assertEqual(pack(letter), [5, 0, 1, ord(letter)])
            self.assertEqual(unpack([5, 0, 1, ord(letter)]), letter)

    def test_the_order_of_keys(self):
        """It does not depend on the order in which the dict has them."""
        keys = [-GREATEST, -10, -2, -1, 0, 2, 10, GREATEST, "", " ", "1", "10", "2", "A", "a", "aa", "b", "~"]
        numbers = [number for key in keys for number in pack(key) + [0]]
        for seed in range(10):
            shuffled = random.Random(seed).sample(keys, len(keys))
            self.assertEqual(pack({key: None for key in shuffled}), [8, 0, 18] + numbers)

    def test_many_items(self):
        self.assertEqual(pack([None] * 300), [7, 1, 44] + [0] * 300)
        self.assertEqual(pack((True,) * 65535), [6, 255, 255] + [2] * 65535)
        self.assertEqual(pack({key: True for key in range(300)})[:3], [8, 1, 44])
        long = "ab" * 32767 + "c"
        self.assertEqual(pack(long)[:5], [5, 255, 255, 97, 98])
        self.assertEqual(unpack(pack(long)), long)

    def test_arguments_stay(self):
        data = {"a": [1, {2: []}], 3: ([],)}
        found = called(self, pack, data)
        wreck(data)
        self.assertEqual(found, pack({"a": [1, {2: []}], 3: ([],)}))
        self.assertIsNot(pack([]), pack([]))

    def test_the_example_of_the_document(self):
        self.assertEqual(pack(("a", -2, {})), [6, 0, 3, 5, 0, 1, 97, 4, 0, 0, 0, 2, 8, 0, 0])


class UnpackTest(unittest.TestCase):
    def test_each_row_of_the_table(self):
        for data, numbers in PACKED:
            with self.subTest(data=data):
                self.assertTrue(same_kinds(called(self, unpack, numbers), data))

    def test_equal_kinds(self):
        for data in (True, 1, False, 0, [1, True], (0, False), {1: True, "1": 1}, [(), [], {}], ("", None)):
            self.assertTrue(same_kinds(unpack(pack(data)), data))

    def test_nested(self):
        for many in range(31):
            for inner in (5, "x", None):
                self.assertTrue(same_kinds(unpack(pack(nested(inner, many))), nested(inner, many)))
        for kind in (lambda data: (data, data), lambda data: [data], lambda data: {7: data}):
            data = kind(True)
            for _ in range(5):
                data = kind(data)
            self.assertTrue(same_kinds(unpack(pack(data)), data))
        deep = ()
        for _ in range(29):
            deep = (deep,)
        self.assertEqual(unpack(pack(deep)), deep)

    def test_any_data(self):
        for seed in range(1500):
            data = any_data(random.Random(seed), 5)
            with self.subTest(seed=seed):
                self.assertTrue(same_kinds(called(self, unpack, called(self, pack, data)), data))

    def test_what_is_handed_out_can_be_changed(self):
        numbers = pack([{1: []}, []])
        first, second = unpack(numbers), unpack(numbers)
        self.assertEqual(containers(first) & containers(second), set())
        wreck(first)
        self.assertEqual((unpack(numbers), numbers), ([{1: []}, []], pack([{1: []}, []])))


class WrongTest(unittest.TestCase):
    def fails(self, numbers, at):
        with self.subTest(numbers=numbers):
            self.assertEqual(vars(raised(self, RecordError, unpack, numbers)), {"at": at})

    def test_each_way(self):
        for numbers, at in WRONG:
            self.fails(numbers, at)

    def test_each_first_byte(self):
        for first in range(9, 256):
            self.fails([first], 0)
            self.fails([first] * 9, 0)
            self.fails([6, 0, 2, 0, first], 4)

    def test_each_byte_of_a_string(self):
        for code in range(256):
            if code < 32 or code > 126 or code == 37:
                self.fails([5, 0, 2, 97, code], 4)
                self.fails([7, 0, 1, 5, 0, 2, code, 97], 6)

    def test_cut_off_at_every_place(self):
        for data, numbers in PACKED:
            for end in range(len(numbers)):
                self.fails(numbers[:end], end)

    def test_bytes_behind_the_end(self):
        for data, numbers in PACKED:
            for more in ([0], [9], [255, 0]):
                self.fails(numbers + more, len(numbers))

    def test_changed_bytes(self):
        """What can be unpacked is packed into the same bytes again; what cannot is shown by the bytes up to `at`."""
        good = wrong = 0
        for seed in range(600):
            source = random.Random(seed)
            numbers = pack(any_data(source, 3))
            for _ in range(6):
                changed = list(numbers)
                changed[source.randrange(len(changed))] = source.choice((0, 1, 2, 3, 4, 5, 6, 7, 8, 9, 37, 97, 255))
                try:
                    found = unpack(changed)
                except RecordError as error:
                    wrong += 1
                    self.assertLessEqual(error.at, len(changed))
                else:
                    good += 1
                    self.assertEqual(pack(found), changed)
        self.assertGreater(min(good, wrong), 300)

    def test_nothing_behind_the_byte_matters(self):
        """The bytes behind the one that shows the fault can be any."""
        for numbers, at in WRONG:
            if at < len(numbers) and numbers[at] > 8:
                self.fails(numbers[:at + 1] + [255] * 9, at)


if __name__ == "__main__":
    unittest.main()
