"""Promises 28 and 29: both banks' Books of a Deck's events, and the crossings that they tell; and promise 4 of them."""

import random
import unittest

from boatbridge.banks import books_of, crossings
from boatbridge.books import Book, read_book
from boatbridge.bridges import read_bridge
from boatbridge.decks import Deck
from boatbridge.errors import Lacks
from tests.anything import assert_refused
from tests.test_books import book


def near(*rows):
    return book("near", *rows)


def far(*rows):
    return book("far", *rows)


class BooksTest(unittest.TestCase):
    def test_no_events(self):
        told = books_of([])
        self.assertEqual(told, (Book("near"), Book("far")))
        self.assertIs(type(told), tuple)

    def test_events_of_both_banks_and_those_that_are_no_rows(self):
        events = [
            (1, "turn", "far"), (1, "on", "anna", "far"), (2, "out"), (3, "through", "ida"), (4, "back"), (5, "down"),
            (5, "off", "anna", "near"), (5, "turn", "near"), (5, "on", "berta", "near"), (9, "off", "berta", "far"),
        ]
        one, other = books_of(events=events)
        self.assertEqual(one, near((5, "off", "anna"), (5, "on", "berta")))
        self.assertEqual(other, far((1, "on", "anna"), (9, "off", "berta")))
        self.assertEqual(len(events), 10)

    def test_new_books(self):
        events = [(1, "on", "anna", "near")]
        books_of(events)[0].write(5, "off", "berta")
        self.assertEqual(books_of(events), (near((1, "on", "anna")), far()))

    def test_in_the_midst_of_carts_on_the_deck(self):
        deck = Deck(read_bridge("30 a:40 30 b:40 30"), (0, 0))
        deck.cart("anna", "near", 5)
        deck.cart("berta", "near", 5)
        deck.cart("carla", "far", 5)
        told = deck.go_to(4)
        self.assertEqual(books_of(told), (
            near((0, "on", "anna"), (1, "on", "berta")), far((3, "off", "anna")),
        ))
        assert_refused(self, Lacks, {"name": "berta", "bank": "near", "word": "on"}, crossings, *books_of(told))
        told += deck.go_to(100)
        self.assertEqual(crossings(*books_of(told)), [
            ("anna", "near", 0, 3), ("berta", "near", 1, 4), ("carla", "far", 4, 7),
        ])
        # Its later events alone lack what was ahead of them.
        deck.cart("dora", "far", 5)
        deck.go_to(102)
        assert_refused(
            self, Lacks, {"name": "dora", "bank": "near", "word": "off"}, crossings, *books_of(deck.go_to(200)))


def crossings_by_hand(one, other):
    """Promise 29 in other words: the crossings, or the fields of Lacks."""
    books = sorted((one, other), key=lambda book: book.bank == "far")
    rows = [(minute, k, at, word, name) for k in (0, 1) for at, (minute, word, name) in enumerate(books[k].rows())]
    told = []
    for minute, k, at, word, name in sorted(rows):
        back = "off" if word == "on" else "on"
        ahead = [row for row in books[k].rows()[:at] if row[1:] == (word, name)]
        there = [row[0] for row in books[1 - k].rows() if row[1:] == (back, name)]
        if len(there) <= len(ahead) or word == "on" and there[len(ahead)] < minute:
            return (name, books[k].bank, word)
        if word == "on":
            told.append((minute, name, k, there[len(ahead)]))
    return [(name, ("near", "far")[k], on, off) for on, name, k, off in sorted(told)]


class CrossingsTest(unittest.TestCase):
    def assert_crossings(self, one, other, told):
        before = (str(one), str(other))
        for books in ((one, other), (other, one)):
            self.assertEqual(crossings(*books), told)
        self.assertEqual((str(one), str(other)), before)

    def assert_lacks(self, one, other, name, bank, word):
        for books in ((one, other), (other, one)):
            assert_refused(self, Lacks, {"name": name, "bank": bank, "word": word}, crossings, *books)

    def test_no_rows(self):
        self.assert_crossings(near(), far(), [])

    def test_one_crossing_from_either_bank(self):
        self.assert_crossings(near((5, "on", "a")), far((8, "off", "a")), [("a", "near", 5, 8)])
        self.assert_crossings(near((8, "off", "a")), far((5, "on", "a")), [("a", "far", 5, 8)])
        self.assert_crossings(near((5, "on", "a")), far((10 ** 9, "off", "a")), [("a", "near", 5, 10 ** 9)])

    def test_off_in_the_minute_of_on(self):
        self.assert_crossings(near((5, "on", "a")), far((5, "off", "a")), [("a", "near", 5, 5)])

    def test_several_of_one_name_by_turns(self):
        self.assert_crossings(
            near((1, "on", "a"), (9, "off", "a"), (10, "on", "a")),
            far((4, "off", "a"), (5, "on", "a"), (12, "off", "a")),
            [("a", "near", 1, 4), ("a", "far", 5, 9), ("a", "near", 10, 12)])

    def test_several_of_one_name_the_first_with_the_first(self):
        self.assert_crossings(
            near((1, "on", "a"), (2, "on", "a")), far((4, "off", "a"), (7, "off", "a")),
            [("a", "near", 1, 4), ("a", "near", 2, 7)])

    def test_the_order(self):
        self.assert_crossings(
            near((3, "on", "b"), (3, "on", "a"), (3, "on", "c"), (4, "off", "a"), (5, "on", "aa"), (9, "off", "c")),
            far((2, "on", "c"), (3, "on", "a"), (4, "off", "c"), (5, "off", "b"), (6, "off", "a"), (7, "off", "aa")),
            [("c", "far", 2, 9), ("a", "near", 3, 6), ("a", "far", 3, 4), ("b", "near", 3, 5), ("c", "near", 3, 4),
             ("aa", "near", 5, 7)])

    def test_both_banks_in_one_minute(self):
        self.assert_crossings(
            near((5, "off", "a"), (5, "on", "a")), far((5, "off", "a"), (5, "on", "a")),
            [("a", "near", 5, 5), ("a", "far", 5, 5)])
        self.assert_crossings(
            near((5, "on", "a"), (5, "on", "a"), (6, "off", "a")),
            far((5, "on", "a"), (7, "off", "a"), (8, "off", "a")),
            [("a", "near", 5, 7), ("a", "near", 5, 8), ("a", "far", 5, 6)])

    def test_an_on_without_an_off(self):
        self.assert_lacks(near((5, "on", "a")), far(), "a", "near", "on")
        self.assert_lacks(near(), far((5, "on", "a")), "a", "far", "on")
        self.assert_lacks(near((5, "on", "a")), far((5, "off", "b")), "a", "near", "on")
        self.assert_lacks(near((5, "on", "a"), (6, "off", "a")), far(), "a", "near", "on")
        self.assert_lacks(near((1, "on", "a"), (2, "on", "a")), far((4, "off", "a")), "a", "near", "on")

    def test_an_off_without_an_on(self):
        self.assert_lacks(near((5, "off", "a")), far(), "a", "near", "off")
        self.assert_lacks(near(), far((5, "off", "a")), "a", "far", "off")
        self.assert_lacks(near((1, "on", "a")), far((4, "off", "a"), (4, "off", "a")), "a", "far", "off")

    def test_an_off_that_is_earlier(self):
        self.assert_lacks(near((5, "on", "a")), far((4, "off", "a")), "a", "near", "on")
        # The off has its on, and is not the one that lacks, though it stands ahead of it.
        self.assert_lacks(near((5, "on", "a"), (6, "on", "b")), far((4, "off", "a")), "a", "near", "on")
        self.assert_lacks(near((5, "on", "a"), (5, "off", "b")), far((4, "off", "a")), "a", "near", "on")
        self.assert_lacks(near((4, "off", "b"), (5, "on", "a")), far((4, "off", "a")), "b", "near", "off")
        self.assert_lacks(
            near((1, "on", "a"), (5, "on", "a")), far((3, "off", "a"), (4, "off", "a")), "a", "near", "on")

    def test_the_first_by_minutes(self):
        self.assert_lacks(near((5, "on", "a")), far((4, "on", "b")), "b", "far", "on")
        self.assert_lacks(near((4, "on", "a")), far((5, "on", "b")), "a", "near", "on")
        self.assert_lacks(near((4, "off", "z")), far((4, "on", "b"), (3 + 2, "on", "a")), "z", "near", "off")

    def test_then_the_near_book_and_as_they_stand(self):
        self.assert_lacks(
            near((5, "off", "z"), (5, "on", "a")), far((5, "on", "a"), (5, "on", "b")), "z", "near", "off")
        self.assert_lacks(near((5, "on", "b"), (5, "on", "a")), far(), "b", "near", "on")
        self.assert_lacks(near(), far((5, "on", "b"), (5, "off", "a")), "b", "far", "on")
        self.assert_lacks(near((5, "on", "b")), far((5, "off", "a"), (5, "off", "b")), "a", "far", "off")

    def test_plain_kinds_and_names(self):
        one, other = near((5, "on", "a")), far((8, "off", "a"))
        told = crossings(other=other, one=one)
        self.assertEqual({type(told)} | {type(row) for row in told}, {list, tuple})
        told.clear()
        self.assertEqual(crossings(one, other), [("a", "near", 5, 8)])

    def test_any_books(self):
        chance = random.Random(29)
        kinds = set()
        for _ in range(1500):
            books = {"near": [], "far": []}
            for _ in range(chance.randrange(6)):
                name, bank, on = chance.choice("ab"), chance.choice(["near", "far"]), chance.randrange(12)
                books[bank].append((on, "on", name))
                books["far" if bank == "near" else "near"].append((on + chance.randrange(5), "off", name))
            if chance.random() < 0.4:
                row = (chance.randrange(12), chance.choice(["on", "off"]), chance.choice("ab"))
                books[chance.choice(["near", "far"])].append(row)
            for rows in books.values():
                chance.shuffle(rows)
                rows.sort(key=lambda row: row[0])
            one, other = near(*books["near"]), far(*books["far"])
            told = crossings_by_hand(one, other)
            with self.subTest(near=one.rows(), far=other.rows()):
                kinds.add(type(told))
                if isinstance(told, list):
                    self.assert_crossings(one, other, told)
                else:
                    self.assert_lacks(one, other, *told)
        self.assertEqual(kinds, {list, tuple})

    def test_great_books(self):
        many = 20000
        one = near(*[(k, "on", "a") for k in range(many)])
        other = far(*[(k, "off", "a") for k in range(many)])
        self.assertEqual(crossings(one, other), [("a", "near", k, k) for k in range(many)])


class PromiseTest(unittest.TestCase):
    """Promise 4: both banks' books tell each crossing, or the one that lacks."""

    def test_of_a_deck(self):
        chance = random.Random(4)
        deck = Deck(read_bridge("30 a:40 30 b:15 30"), (1, 2), turn=2, rest=5)
        banks = {}
        for k in range(60):
            name = "c" + chr(97 + k // 26) + chr(97 + k % 26)
            banks[name] = chance.choice(["near", "far"])
            deck.cart(name, banks[name], chance.randint(1, 30), chance.randrange(200))
        for k in range(9):
            deck.ship("s" + chr(97 + k), 5, 25 * k)
        events = deck.go_to(2000)
        books = books_of(events)
        told = crossings(*books)
        # From end to end it takes as many minutes as there are spans.
        self.assertEqual(len(told), 60)
        self.assertEqual({row[0]: row[1] for row in told}, banks)
        self.assertEqual({row[3] - row[2] for row in told}, {3})
        self.assertEqual(told, sorted(told, key=lambda row: row[2]))
        # Each row left out of either book is told.
        for k, left in [(0, 3), (0, 17), (1, 0), (1, 40)]:
            lines = str(books[k]).split("\n")
            minute, word, name = books[k].rows()[left]
            cut = read_book("\n".join(lines[:left + 1] + lines[left + 2:]))
            with self.assertRaises(Lacks) as caught:
                crossings(cut, books[1 - k])
            self.assertEqual(caught.exception.name, name)
            self.assertEqual(caught.exception.word, "off" if word == "on" else "on")
            self.assertEqual(caught.exception.bank, books[1 - k].bank)


if __name__ == "__main__":
    unittest.main()
