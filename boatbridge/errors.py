"""The refusals: one class for each, straight under a class of Python's, with the fields told."""


class NoTime(ValueError):
    """What was handed in is not how a minute is written."""

    def __init__(self, word):
        self.word = word


class NoWire(ValueError):
    """What was handed in is not how a reading is written by wire."""

    def __init__(self, word):
        self.word = word


class NoBridge(ValueError):
    """What was handed in makes no bridge."""


class NoRow(ValueError):
    """The desk can't read this row."""

    def __init__(self, row):
        self.row = row


class NoThing(TypeError):
    """An argument is none of the things that it may be."""

    def __init__(self, thing):
        self.thing = thing


class NoBoat(KeyError):
    """The bridge has no boat of this name."""

    def __init__(self, name):
        self.name = name


class Taken(KeyError):
    """A cart or ship of this name was told already."""

    def __init__(self, name):
        self.name = name


class NoDeck(Exception):
    """The desk has no deck of this name."""

    def __init__(self, name):
        self.name = name


class NoWaits(ZeroDivisionError):
    """None of so many waits ends, so that there is no mean."""

    def __init__(self, many):
        self.many = many


class NoSpan(IndexError):
    """The bridge has nothing at this number."""

    def __init__(self, at):
        self.at = at


class NoRule(LookupError):
    """No rule is written so; from the word of this number on it is wrong."""

    def __init__(self, at):
        self.at = at


class NoBook(LookupError):
    """No book is written so; the line of this number is wrong."""

    def __init__(self, row):
        self.row = row


class Lacks(LookupError):
    """A row of one bank's book lacks its other in the other bank's."""

    def __init__(self, name, bank, word):
        self.name = name
        self.bank = bank
        self.word = word


class NoStretch(ArithmeticError):
    """A stretch would end ahead of its first minute."""

    def __init__(self, first, behind):
        self.first = first
        self.behind = behind


class Overload(OverflowError):
    """A span or a boat has by so much more on it than it bears."""

    def __init__(self, part, at, over):
        self.part = part
        self.at = at
        self.over = over


class NoChange(RuntimeError):
    """The boats can't be changed; by these numbers it fails."""

    def __init__(self, one, other):
        self.one = one
        self.other = other


class TooLate(RuntimeError):
    """The call to take the bridge up should have gone out already."""

    def __init__(self, minute):
        self.minute = minute


class Late(RuntimeError):
    """The deck is beyond what was asked for; this is its now."""

    def __init__(self, minute):
        self.minute = minute


class Backward(RuntimeError):
    """A row's minute is less than this one, of the row ahead."""

    def __init__(self, minute):
        self.minute = minute


class NoDeed(NotImplementedError):
    """The desk knows no deed by this word."""

    def __init__(self, word):
        self.word = word
