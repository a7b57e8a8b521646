"""Rules of hours read from their texts, word by word; a wrong word is told by its number."""

from boatbridge.errors import NoRule, NoTime
from boatbridge.hours import Both, Days, Either, Hours, Unless
from boatbridge.things import number_of
from boatbridge.times import DAY, read_time

MOST_DAY = 6
MOST_DEEP = 6
MOST_RULES = 8


def read_rule(text):
    """The Rule that is written so; anything that none is written as is NoRule."""
    if not isinstance(text, str):
        raise NoRule(0)
    words = text.split(" ")
    rule, behind = _rule_at(words, 0, 1)
    if behind < len(words):
        raise NoRule(behind)
    return rule


# Each of the functions below is handed the words, the number of the first one of a part, and how
# deep the Rule stands, and tells the part and the number of the first word behind it. None takes
# a word that no Rule's text could go on with: so the first word refused is the one to be told.


def _rule_at(words, at, deep):
    word = _word(words, at)
    if word != "(":
        return _hours(word, at), at + 1
    kind = _word(words, at + 1)
    if kind == "days":
        return _days_at(words, at + 2)
    if kind == "unless" and deep < MOST_DEEP:
        return _unless_at(words, at + 2, deep)
    if kind == "both":
        rules, behind = _rules_at(words, at + 2, deep)
        return Both(rules), behind
    if kind == "either":
        rules, behind = _rules_at(words, at + 2, deep)
        return Either(rules), behind
    raise NoRule(at + 1)


def _word(words, at):
    """The word at this number, where more must come."""
    if at == len(words):
        raise NoRule(at)
    return words[at]


def _hours(word, at):
    one, _, other = word.partition("-")
    first = _clock(one)
    behind = _clock(other)
    if first is None or behind is None or first == behind:
        raise NoRule(at)
    return Hours(first, behind)


def _clock(word):
    """The clock that is written as this word, or None."""
    try:
        minute = read_time(word)
    except NoTime:
        return None
    return minute if minute < DAY else None


def _days_at(words, at):
    days = []
    while days == [] or _word(words, at) != ")":
        day = number_of(_word(words, at), MOST_DAY)
        if day is None or (days and day <= days[-1]):
            raise NoRule(at)
        days.append(day)
        at += 1
    return Days(tuple(days)), at + 1


def _unless_at(words, at, deep):
    rule, at = _rule_at(words, at, deep + 1)
    if _word(words, at) != ")":
        raise NoRule(at)
    return Unless(rule), at + 1


def _rules_at(words, at, deep):
    # So deep as Rules stand at most, there may be one with room for Rules, but with none in it.
    most = MOST_RULES if deep < MOST_DEEP else 0
    rules = []
    while _word(words, at) != ")":
        if len(rules) == most:
            raise NoRule(at)
        rule, at = _rule_at(words, at, deep + 1)
        rules.append(rule)
    return tuple(rules), at + 1
