"""Both banks' books, and the crossings that they tell together."""

from boatbridge.books import Book
from boatbridge.deeds import OFF, ON
from boatbridge.errors import Lacks
from boatbridge.shores import FAR, NEAR


def books_of(events):
    """The Books of the near and the far bank, with what a Deck's events tell of carts."""
    near = Book(NEAR)
    far = Book(FAR)
    for event in events:
        if event[1] in (ON, OFF):
            minute, word, name, bank = event
            book = near if bank == NEAR else far
            book.write(minute, word, name)
    return near, far


def crossings(one, other):
    """The crossings, tuples (name, bank, on, off), that the Books of both banks tell."""
    near, far = (one, other) if one.bank == NEAR else (other, one)
    rows = _with_others(near, far) + _with_others(far, near)
    # Sorted by minutes alone the near bank's rows stay ahead of the far one's, and each as it stands.
    for minute, word, name, bank, there in sorted(rows, key=lambda row: row[0]):
        if there is None or (word == ON and there < minute):
            raise Lacks(name, bank, word)
    told = [(name, bank, minute, there) for minute, word, name, bank, there in rows if word == ON]
    return sorted(told, key=lambda row: (row[2], row[0], row[1] != NEAR, row[3]))


def _with_others(book, over):
    """The book's rows, each with its bank and the minute of the row over there that goes with it, or None."""
    left = {ON: _minutes(over, OFF), OFF: _minutes(over, ON)}
    told = []
    for minute, word, name in book.rows():
        there = left[word].get(name, [])
        told.append((minute, word, name, book.bank, there.pop(0) if there else None))
    return told


def _minutes(book, word):
    """By each name: the minutes of its rows of this word, in their order."""
    found = {}
    for minute, written, name in book.rows():
        if written == word:
            found.setdefault(name, []).append(minute)
    return found
