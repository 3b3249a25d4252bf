"""Points 3 to 7: values, kinds, converting, plain values, cutting and gluing."""

import unittest

from lenstree.values import convert, cut, glue, is_value, kind_of, plain_value

ALLOWED = "".join([chr(code) for code in range(32, 127) if chr(code) != "%"])


class IsValueTest(unittest.TestCase):
    def test_integers_within_the_bounds(self):
        for number in (0, 1, -1, 999999998, 999999999, -999999998, -999999999):
            self.assertIs(is_value(number), True, number)

    def test_integers_beyond_the_bounds(self):
        for number in (1000000000, -1000000000, 2 ** 31, -(2 ** 31), 10 ** 40, -(10 ** 40)):
            self.assertIs(is_value(number), False, number)

    def test_length_of_texts(self):
        for length in (0, 1, 29, 30):
            self.assertIs(is_value("x" * length), True, length)
        for length in (31, 32, 300):
            self.assertIs(is_value("x" * length), False, length)

    def test_each_character_that_may_stand_in_a_text(self):
        self.assertEqual(len(ALLOWED), 94)
        for letter in ALLOWED:
            self.assertIs(is_value(letter), True, letter)
            self.assertIs(is_value("a" + letter + "b"), True, letter)

    def test_each_other_character(self):
        others = [chr(code) for code in range(300) if chr(code) not in ALLOWED] + ["\u2028", "\u0660", "\U0001f600"]
        for letter in others:
            self.assertIs(is_value(letter), False, repr(letter))
            self.assertIs(is_value("ab" + letter), False, repr(letter))
            self.assertIs(is_value(letter + "ab"), False, repr(letter))

    def test_null(self):
        self.assertIs(is_value(None), True)

    def test_other_things(self):
        for thing in (True, False, [], [1], (), (1,), {}, {1: 1}, set(), 1.0, 0.5, b"a", object(), int):
            self.assertIs(is_value(thing), False, thing)


class KindOfTest(unittest.TestCase):
    def test_kinds(self):
        for value in (0, -5, 999999999):
            self.assertEqual(kind_of(value), "int")
        for value in ("", "7", "null", " "):
            self.assertEqual(kind_of(value), "text")
        self.assertEqual(kind_of(None), "")


class ConvertTest(unittest.TestCase):
    def test_null_stays_null(self):
        self.assertIsNone(convert(None, "int"))
        self.assertIsNone(convert(None, "text"))

    def test_value_of_the_kind_stays_itself(self):
        for number in (0, -7, 999999999, -999999999):
            self.assertEqual(convert(number, "int"), number)
        for text in ("", "007", " a ", "-"):
            self.assertEqual(convert(text, "text"), text)

    def test_integer_becomes_text(self):
        for number, text in ((0, "0"), (7, "7"), (-7, "-7"), (10, "10")):
            self.assertEqual(convert(number, "text"), text)
        for number, text in ((999999999, "999999999"), (-999999999, "-999999999")):
            self.assertEqual(convert(number, "text"), text)

    def test_text_becomes_integer(self):
        numbers = (0, 7, -7, 100, 999999999, -999999999)
        for text, number in zip(("0", "7", "-7", "100", "999999999", "-999999999"), numbers):
            self.assertEqual(convert(text, "int"), number)
            self.assertIs(type(convert(text, "int")), int)

    def test_text_that_no_integer_gives_becomes_null(self):
        texts = [
            "007", "-0", "+7", " 7", "7 ", "", "-", "--7", "1000000000", "-1000000000", "00", "01", "-01", "7-", "1-2",
            "- 7", "9" * 30, "-" + "9" * 29, "1" + "0" * 29, "0" * 30, "1_000", "1.0", "1e3", "0x1", "abc", "7a", "a7",
            "+", "None", ".",
        ]
        for text in texts:
            self.assertIsNone(convert(text, "int"), text)

    def test_there_and_back(self):
        for number in list(range(-1100, 1101)) + [999999999, -999999999, 123456789, -100000000]:
            self.assertEqual(convert(convert(number, "text"), "int"), number)


class PlainValueTest(unittest.TestCase):
    def test_nullable(self):
        self.assertIsNone(plain_value("int", True))
        self.assertIsNone(plain_value("text", True))

    def test_not_nullable(self):
        self.assertEqual(plain_value("int", False), 0)
        self.assertIs(type(plain_value("int", False)), int)
        self.assertEqual(plain_value("text", False), "")


class CutTest(unittest.TestCase):
    def test_example_of_the_document(self):
        self.assertEqual(cut("ada b lovelace", " "), ("ada", "b lovelace"))

    def test_places_of_the_separator(self):
        for text, parts in (
            ("ab", ("ab", "")), ("", ("", "")), (",ab", ("", "ab")), ("ab,", ("ab", "")), ("a,b", ("a", "b")),
            ("a,b,c", ("a", "b,c")), (",,", ("", ",")), (",", ("", "")), ("a;b", ("a;b", "")),
        ):
            result = cut(text, ",")
            self.assertEqual(result, parts, text)
            self.assertIs(type(result), tuple)

    def test_separators_that_mean_something_elsewhere(self):
        for separator in (".", "|", "\\", "*", "^", " ", "a", "0"):
            self.assertEqual(cut("x" + separator + "y" + separator, separator), ("x", "y" + separator))


class GlueTest(unittest.TestCase):
    def test_joined(self):
        self.assertEqual(glue("ada", "b lovelace", " "), "ada b lovelace")
        self.assertEqual(glue("", "", ","), ",")
        self.assertEqual(glue("a", "", ","), "a,")
        self.assertEqual(glue("", "b", ","), ",b")

    def test_cut_off_behind_thirty_characters(self):
        self.assertEqual(glue("a" * 14, "b" * 14, ","), "a" * 14 + "," + "b" * 14)
        self.assertEqual(glue("a" * 14, "b" * 15, ","), "a" * 14 + "," + "b" * 15)
        self.assertEqual(glue("a" * 15, "b" * 15, ","), "a" * 15 + "," + "b" * 14)
        self.assertEqual(glue("a" * 30, "b" * 30, ","), "a" * 30)
        self.assertEqual(glue("a" * 29, "b" * 30, ","), "a" * 29 + ",")
        self.assertEqual(glue("a" * 28, "bc", ","), "a" * 28 + ",b")

    def test_cut_and_glued_again(self):
        for text in ("a,b", ",b", "a,", "a,b,c", ","):
            first, second = cut(text, ",")
            self.assertEqual(glue(first, second, ","), text)


if __name__ == "__main__":
    unittest.main()
