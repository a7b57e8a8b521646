"""What a thing is, whatever was handed in: a whole number, a name, a number by figures."""

FIGURES = "0123456789"
SMALL_LETTERS = "abcdefghijklmnopqrstuvwxyz"
LONGEST_NAME = 8


def is_whole(thing, least, most):
    """Whether thing is a whole number from least to most; a truth is none."""
    return isinstance(thing, int) and not isinstance(thing, bool) and least <= thing <= most


def is_count(thing):
    """Whether thing is a whole number from 0 on, however great; a truth is none."""
    return isinstance(thing, int) and not isinstance(thing, bool) and thing >= 0


def is_name(thing):
    """Whether thing is a text of one to eight small letters."""
    return isinstance(thing, str) and 1 <= len(thing) <= LONGEST_NAME and has_only(thing, SMALL_LETTERS)


def has_only(word, signs):
    """Whether each sign of the word is one of the signs."""
    return all([sign in signs for sign in word])


def number_of(word, most):
    """The number up to most that is written as this word, without a 0 ahead; else None."""
    # A long row of figures must not come to int, which refuses some of them by itself.
    if word == "" or len(word) > len(str(most)) or not has_only(word, FIGURES):
        return None
    number = int(word)
    if number > most or str(number) != word:
        return None
    return number
