"""Promise 2: what a whole number is, what a name is, and how a number is written."""

import unittest

from boatbridge.things import has_only, is_count, is_name, is_whole, number_of
from tests.anything import no_texts, things


class WholeTest(unittest.TestCase):
    def test_bounds(self):
        self.assertEqual([is_whole(k, 1, 3) for k in range(-1, 6)], [False, False, True, True, True, False, False])
        self.assertIs(is_whole(0, 0, 0), True)
        self.assertIs(is_whole(10 ** 30, 0, 10 ** 30), True)

    def test_truths_and_other_things_are_none(self):
        for thing in things():
            told = type(thing) is int and 0 <= thing <= 1
            self.assertIs(is_whole(thing, 0, 1), told)


class CountTest(unittest.TestCase):
    def test_from_0_on(self):
        self.assertEqual([is_count(k) for k in range(-2, 3)], [False, False, True, True, True])
        self.assertIs(is_count(10 ** 300), True)

    def test_truths_and_other_things_are_none(self):
        for thing in things():
            self.assertIs(is_count(thing), type(thing) is int and thing >= 0)


class NameTest(unittest.TestCase):
    def test_names(self):
        for name in ("a", "z", "anna", "zebrazzz", "abcdefgh", "none", "near"):
            self.assertIs(is_name(name), True)

    def test_other_texts(self):
        for text in (
            "", " ", "abcdefghi", "a" * 8000, "Anna", "ANNA", "an na", "anna ", " anna", "anna1", "1", "an-na", "an_na",
            "anna\n", "\n", "{", "`", "\u00e4", "\u0430", "\u00aa",
        ):
            with self.subTest(text[:9]):
                self.assertIs(is_name(text), False)

    def test_what_is_no_text(self):
        for thing in [*no_texts(), ["a"], ("a", "b"), {"a": 1}]:
            with self.subTest(thing=thing):
                self.assertIs(is_name(thing), False)


class NumberTest(unittest.TestCase):
    def test_numbers(self):
        for number in (0, 1, 9, 10, 99, 100, 999, 1000):
            self.assertEqual(number_of(str(number), 1000), number)

    def test_other_texts(self):
        for text in (
            "", "1001", "9999", "10000", "00", "01", "0001", "-1", "+1", " 1", "1 ", "1_0", "1.0", "0x1", "a", "1\n",
            "9" * 8000, "\u0661", "\u00b2",
        ):
            with self.subTest(text[:9]):
                self.assertIsNone(number_of(text, 1000))


class SignsTest(unittest.TestCase):
    def test_signs(self):
        self.assertIs(has_only("", "ab"), True)
        self.assertIs(has_only("abba", "ab"), True)
        self.assertIs(has_only("abbac", "ab"), False)


if __name__ == "__main__":
    unittest.main()
