"""Promise 28: Books, what is written in them, and how they are read."""

import itertools
import random
import unittest

from boatbridge.books import Book, read_book
from boatbridge.errors import Backward, NoBook, NoTime
from boatbridge.times import read_time, show_time
from tests.anything import assert_equal_both_ways, assert_refused, no_texts, one_sign_away, things

MOST = 10 ** 6


def book(bank, *rows):
    told = Book(bank)
    for row in rows:
        told.write(*row)
    return told


ANNA_ON = (425, "on", "anna")
ANNA_OFF = (426, "off", "anna")


class BookTest(unittest.TestCase):
    def test_rows(self):
        one = Book("near")
        self.assertEqual((one.bank, one.rows(), len(one)), ("near", [], 0))
        self.assertIsNone(one.write(425, "on", "anna"))
        self.assertIsNone(one.write(name="berta", word="off", minute=425))
        self.assertEqual(one.rows(), [ANNA_ON, (425, "off", "berta")])
        self.assertEqual(len(one), 2)
        self.assertEqual({type(row) for row in one.rows()}, {tuple})
        self.assertEqual(Book(bank="far").bank, "far")

    def test_truth_is_length(self):
        one = Book("near")
        self.assertIs(bool(one), False)
        one.write(*ANNA_ON)
        self.assertIs(bool(one), True)

    def test_rows_changed_by_the_asker(self):
        one = book("near", ANNA_ON)
        told = one.rows()
        told.append(ANNA_OFF)
        one.rows().clear()
        self.assertEqual(one.rows(), [ANNA_ON])
        one.write(*ANNA_OFF)
        self.assertEqual(told, [ANNA_ON, ANNA_OFF])
        self.assertEqual(len(one), 2)

    def test_minutes_never_less(self):
        one = book("near", (0, "on", "anna"), (0, "off", "anna"), (7, "on", "anna"), (7, "on", "anna"))
        for minute in (0, 6):
            assert_refused(self, Backward, {"minute": 7}, one.write, minute, "on", "berta")
        self.assertEqual(len(one), 4)
        self.assertEqual(str(one), "near\n00:00 on anna\n00:00 off anna\n00:07 on anna\n00:07 on anna")
        one.write(8, "on", "berta")
        assert_refused(self, Backward, {"minute": 8}, one.write, 7, "on", "carla")
        self.assertEqual(len(one), 5)

    def test_str(self):
        self.assertEqual(str(Book("near")), "near")
        self.assertEqual(str(Book("far")), "far")
        self.assertEqual(str(book("near", ANNA_ON)), "near\n07:05 on anna")
        self.assertEqual(
            str(book("far", ANNA_ON, ANNA_OFF, (1865, "on", "b"))),
            "far\n07:05 on anna\n07:06 off anna\n07:05+1 on b")
        self.assertEqual(f"{book('near', (10 ** 9, 'off', 'abcdefgh'))}", f"near\n{show_time(10 ** 9)} off abcdefgh")


class EqualTest(unittest.TestCase):
    def books(self):
        """Books none of which is equal to another one."""
        on, off = (5, "on", "a"), (5, "off", "a")
        return [
            book(bank, *rows) for bank in ("near", "far") for rows in [
                (), (on,), (off,), (on, off), (off, on), (on, on), ((4, "on", "a"),), ((5, "on", "b"),), (on, off, on),
            ]
        ]

    def test_made_alike_and_unlike(self):
        for (at, one), (place, other) in itertools.product(enumerate(self.books()), enumerate(self.books())):
            assert_equal_both_ways(self, one, other, at == place)

    def test_nothing_else_is_equal(self):
        for one in (Book("near"), book("near", ANNA_ON)):
            for other in [*things(), str(one), one.rows(), tuple(one.rows()), ("near", one.rows()), ANNA_ON, object()]:
                assert_equal_both_ways(self, one, other, False)

    def test_rows_written_later_count(self):
        one, other = Book("near"), Book("near")
        one.write(*ANNA_ON)
        assert_equal_both_ways(self, one, other, False)
        other.write(*ANNA_ON)
        assert_equal_both_ways(self, one, other, True)


def wrong_line(text):
    """Promise 28 in other words: the number of the first line that is wrong, or None."""
    lines = text.split("\n")
    if lines[0] not in ("near", "far"):
        return 0
    ahead = 0
    for at, line in enumerate(lines[1:], start=1):
        parts = line.split(" ")
        try:
            minute = read_time(parts[0])
        except NoTime:
            return at
        name = parts[-1]
        small = 1 <= len(name) <= 8 and all("a" <= sign <= "z" for sign in name)
        if not small or minute < ahead or line not in (f"{parts[0]} on {name}", f"{parts[0]} off {name}"):
            return at
        ahead = minute
    return None


class ReadTest(unittest.TestCase):
    def assert_wrong(self, text, row):
        assert_refused(self, NoBook, {"row": row}, read_book, text)

    def test_read_back(self):
        for one in [
            Book("near"), Book("far"), book("near", ANNA_ON), book("far", ANNA_ON, ANNA_OFF, ANNA_OFF),
            book("near", (0, "off", "a"), (0, "on", "abcdefgh"), (MOST, "on", "near"), (MOST, "off", "on")),
        ]:
            with self.subTest(str(one)):
                told = read_book(text=str(one))
                self.assertIs(type(told), Book)
                self.assertEqual(told, one)
                self.assertEqual((told.bank, told.rows(), str(told)), (one.bank, one.rows(), str(one)))

    def test_any_book_read_back(self):
        chance = random.Random(28)
        for _ in range(100):
            one = Book(chance.choice(["near", "far"]))
            for minute in sorted(chance.randrange(chance.choice([10, 3000, MOST])) for _ in range(chance.randrange(9))):
                one.write(minute, chance.choice(["on", "off"]), chance.choice(["a", "anna", "abcdefgh"]))
            self.assertEqual(read_book(str(one)), one)

    def test_what_is_no_text(self):
        for thing in [*no_texts(), ["near"], Book("near"), book("near", ANNA_ON), b"near"]:
            with self.subTest(thing=thing):
                self.assert_wrong(thing, 0)

    def test_first_lines(self):
        for line in ("", "Near", "near ", " near", "nearfar", "n", "07:05 on anna", "near far", "near/"):
            self.assert_wrong(line, 0)
            self.assert_wrong(line + "\n07:05 on anna", 0)
            self.assert_wrong(line + "\nx", 0)

    def test_empty_lines(self):
        self.assert_wrong("near\n", 1)
        self.assert_wrong("near\n07:05 on anna\n", 2)
        self.assert_wrong("near\n\n07:05 on anna", 1)
        self.assert_wrong("\nnear", 0)
        self.assert_wrong("near\n07:05 on anna\n\n\n", 2)

    def test_lines_that_are_not_so_written(self):
        for line in (
            "07:05  on anna", "07:05 on  anna", " 07:05 on anna", "07:05 on anna ", "07:05 on", "07:05 anna", "on anna",
            "07:05 on anna berta", "07:05", "07:05 On anna", "07:05 in anna", "07:05 onn anna", "07:05 through anna",
            "07:05 on abcdefghi", "07:05 on Anna", "07:05 on ann1", "07:05 on ", "07:05 on an-na", "7:05 on anna",
            "07:60 on anna", "24:00 on anna", "07:05+0 on anna", "07:05+01 on anna", "425 on anna", "on 07:05 anna",
            "07:05\ton\tanna", "near", "07:05 onanna", "10:41+694 on anna", "07:05+99999999999999999999 on anna",
        ):
            with self.subTest(line):
                self.assert_wrong("near\n" + line, 1)
                self.assert_wrong("far\n00:00 on anna\n00:00 off b\n" + line + "\n\n", 3)

    def test_minutes_of_10_to_the_6_and_one_more(self):
        self.assertEqual(read_book("near\n10:40+694 on a").rows(), [(MOST, "on", "a")])
        self.assertEqual(show_time(MOST), "10:40+694")
        self.assert_wrong("near\n10:41+694 on a", 1)

    def test_a_lesser_minute(self):
        self.assert_wrong("near\n07:05 on anna\n07:04 off berta", 2)
        self.assert_wrong("near\n07:05+1 on anna\n07:05 off berta", 2)
        self.assert_wrong("near\n07:05 on anna\n07:05 on anna\n07:06 on anna\n07:05 on anna\n07:04 on anna", 4)
        self.assertEqual(len(read_book("near\n07:05 on anna\n07:05 on anna")), 2)

    def test_the_first_of_several_wrong_lines(self):
        self.assert_wrong("near\n07:05 on anna\nx\n07:04 on anna", 2)
        self.assert_wrong("near\n07:05 on anna\n07:04 on anna\nx", 2)
        self.assert_wrong("x\ny", 0)

    def test_texts_one_sign_away(self):
        text = "far\n07:05 on ab\n07:05 off a\n10:40+694 on z"
        right = 0
        for other in one_sign_away(text, "\n 0:+1anfoz"):
            told = wrong_line(other)
            with self.subTest(other):
                if told is None:
                    right += 1
                    self.assertEqual(str(read_book(other)), other)
                else:
                    self.assert_wrong(other, told)
        self.assertGreater(right, 20)

    def test_a_great_book(self):
        many = book("near", *[(k, "on", "anna") for k in range(30000)])
        self.assertEqual(read_book(str(many)), many)


if __name__ == "__main__":
    unittest.main()
