"""Books: what one bank writes of the carts that go on and off there."""

from boatbridge.deeds import OFF, ON
from boatbridge.errors import Backward, NoBook, NoTime
from boatbridge.shores import is_bank
from boatbridge.things import is_name
from boatbridge.times import read_time, show_time


class Book:
    """The rows of one bank, tuples (minute, word, name)."""

    def __init__(self, bank):
        self.bank = bank
        self._rows = []

    def __eq__(self, other):
        return isinstance(other, Book) and self.bank == other.bank and self._rows == other._rows

    def __len__(self):
        return len(self._rows)

    def __str__(self):
        return "\n".join([self.bank, *[f"{show_time(minute)} {word} {name}" for minute, word, name in self._rows]])

    def write(self, minute, word, name):
        """Writes a row behind the others."""
        if self._rows and minute < self._rows[-1][0]:
            raise Backward(self._rows[-1][0])
        self._rows.append((minute, word, name))

    def rows(self):
        """The rows, in their order."""
        return list(self._rows)


def read_book(text):
    """The Book that is written so; anything that none is written as is NoBook."""
    if not isinstance(text, str):
        raise NoBook(0)
    bank, *lines = text.split("\n")
    if not is_bank(bank):
        raise NoBook(0)
    book = Book(bank)
    for at, line in enumerate(lines, start=1):
        row = _row_of(line)
        if row is None:
            raise NoBook(at)
        minute, word, name = row
        try:
            book.write(minute, word, name)
        except Backward:
            raise NoBook(at) from None
    return book


def _row_of(line):
    """The row that is written as this line, or None."""
    words = line.split(" ")
    if len(words) != 3 or words[1] not in (ON, OFF) or not is_name(words[2]):
        return None
    try:
        return read_time(words[0]), words[1], words[2]
    except NoTime:
        return None
