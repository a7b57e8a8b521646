"""Promise 18 word by word: what a Rule's text is, from the inmost brackets out, and where one goes wrong."""

import functools
import re

CLOCK = re.compile(r"([01][0-9]|2[0-3]):[0-5][0-9]")
DEEPEST = 6
MOST = 8

# With one of these, and as many brackets as lack, any words end that a Rule's text can begin with.
FILLERS = ((), ("08:00-10:30",), ("both",), ("6",))


def is_hours(word):
    parts = word.split("-")
    return len(parts) == 2 and parts[0] != parts[1] and all(CLOCK.fullmatch(part) for part in parts)


def depth_of(inside):
    """How deep the Rule of one pair of brackets is, by the words and depths in it; None where it is none."""
    word, *rest = inside or ("",)
    if word == "days":
        words = [day for day in rest if isinstance(day, str) and re.fullmatch("[0-6]", day)]
        return 1 if rest and words == rest and words == sorted(set(words)) else None
    deep = all(isinstance(part, int) for part in rest)
    if word == "unless" and deep and len(rest) == 1 or word in ("both", "either") and deep and len(rest) <= MOST:
        return 1 + max(rest, default=0)
    return None


@functools.lru_cache(maxsize=None)
def is_rule_text(words):
    """Whether the words are a Rule's text: each pair of brackets, inmost first, comes to its depth."""
    left = [1 if is_hours(word) else word for word in words]
    while ")" in left:
        end = left.index(")")
        starts = [at for at in range(end) if left[at] == "("]
        if not starts:
            return False
        deep = depth_of(tuple(left[starts[-1] + 1:end]))
        if deep is None or deep > DEEPEST:
            return False
        left[starts[-1]:end + 1] = [deep]
    return len(left) == 1 and isinstance(left[0], int)


@functools.lru_cache(maxsize=None)
def can_begin(words):
    """Whether some Rule's text begins with the words."""
    return any(
        is_rule_text((*words, *filler, *[")"] * many)) for filler in FILLERS for many in range(DEEPEST + 1)
    )


def first_wrong(words):
    """The number that NoRule tells of words that are no Rule's text."""
    for at in range(len(words)):
        if not can_begin(tuple(words[:at + 1])):
            return at
    return len(words)
