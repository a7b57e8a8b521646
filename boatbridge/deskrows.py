"""Rows said at a desk, and what their words are, before any deed is done."""

from boatbridge.errors import NoDeed, NoRow, NoTime
from boatbridge.shores import is_bank
from boatbridge.things import is_name, is_whole, number_of
from boatbridge.times import read_time

BRIDGE = "bridge"
RULE = "rule"

# By deed: what the words behind it have to be. Behind these stands the TEXT of a bridge or a rule.
KINDS = {
    "bridge": ("name", "span", "span"),
    "rule": ("name",),
    "cart": ("name", "name", "bank", "weight"),
    "ship": ("name", "name"),
    "rest": ("name", "time", "time"),
    "go": ("name", "time"),
    "deck": ("name",),
    "line": ("name", "bank"),
    "ships": ("name",),
    "waits": ("name",),
    "book": ("name", "bank"),
}

# By deed: the options that may stand behind all else.
OPTIONS = {
    "bridge": ("out", "rest", "turn"),
    "cart": ("at",),
    "ship": ("at", "long"),
    "waits": ("most",),
}

# By kind of word, or option: the least and the most that its number may be; nine figures where all may be.
BOUNDS = {
    "span": (0, 10),
    "weight": (1, 1000000),
    "out": (1, 60),
    "rest": (0, 1000),
    "turn": (1, 20),
    "at": (0, 999999999),
    "long": (1, 60),
    "most": (0, 999999999),
}


def read_row(row):
    """The deed, the values of its words, the words of its TEXT, and its options by names."""
    if not isinstance(row, str):
        raise NoRow(row)
    deed, *words = row.split(" ")
    if deed not in KINDS:
        raise NoDeed(deed)
    kinds = KINDS[deed]
    values = [_value(kind, word) for kind, word in zip(kinds, words)]
    text, behind = _text_and_options(deed, words[len(kinds):])
    options = _options(OPTIONS.get(deed, ()), behind)
    if "" in words or len(values) < len(kinds) or None in values or options is None:
        raise NoRow(row)
    if deed in (BRIDGE, RULE) and text == []:
        raise NoRow(row)
    # The first and the last span of a part.
    if deed == BRIDGE and values[1] > values[2]:
        raise NoRow(row)
    return deed, values, " ".join(text), options


def _value(kind, word):
    """What the word is, taken as one of this kind, or None."""
    if kind == "name":
        return word if is_name(word) else None
    if kind == "bank":
        return word if is_bank(word) else None
    if kind == "time":
        return _minute(word)
    return _number(kind, word)


def _minute(word):
    try:
        return read_time(word)
    except NoTime:
        return None


def _number(kind, word):
    """The number by figures, within the bounds of its kind, or None."""
    least, most = BOUNDS[kind]
    number = number_of(word, most)
    return number if is_whole(number, least, most) else None


def _text_and_options(deed, words):
    """The words of the deed's TEXT, and those of the options behind it."""
    if deed == RULE:
        return words, []
    if deed != BRIDGE:
        return [], words
    behind = len(words)
    while behind > 0 and "=" in words[behind - 1]:
        behind -= 1
    return words[:behind], words[behind:]


def _options(names, words):
    """The numbers of the options by their names; None where one isn't as it may be."""
    found = {}
    for word in words:
        name, _, figures = word.partition("=")
        if name not in names or name in found or _number(name, figures) is None:
            return None
        found[name] = _number(name, figures)
    return found
