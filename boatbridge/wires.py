"""Readings of the gauge as they come by wire: w1f@07:05."""

from boatbridge.errors import NoTime, NoWire
from boatbridge.things import has_only
from boatbridge.times import read_time, show_time

KINDS = {"w": "water", "i": "ice"}
SIXTEENS = "0123456789abcdef"
LONGEST_NUMBER = 3


def show_wire(reading):
    """The text of a reading, a tuple (minute, kind, number)."""
    minute, kind, number = reading
    return f"{kind[0]}{number:x}@{show_time(minute)}"


def read_wire(word):
    """The reading of a text; anything that none is written as is NoWire."""
    if not isinstance(word, str) or word[:1] not in KINDS:
        raise NoWire(word)
    figures, _, clock = word[1:].partition("@")
    # Only so many figures come to int, and none of the other signs that it would take.
    if not 1 <= len(figures) <= LONGEST_NUMBER or not has_only(figures, SIXTEENS):
        raise NoWire(word)
    try:
        minute = read_time(clock)
    except NoTime:
        raise NoWire(word) from None
    reading = (minute, KINDS[word[0]], int(figures, 16))
    # Noughts ahead come to the same number, but are not how it is written.
    if show_wire(reading) != word:
        raise NoWire(word)
    return reading
