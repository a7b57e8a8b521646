"""Minutes, counted from 0, as they are written: HH:MM, and HH:MM+D from day 1 on."""

from boatbridge.errors import NoTime

DAY = 1440
HOUR = 60
MOST_READ = 1000000
LONGEST_READ = 9


def show_time(minute):
    """The text of a minute."""
    day, clock = divmod(minute, DAY)
    hours, minutes = divmod(clock, HOUR)
    text = f"{hours:02d}:{minutes:02d}"
    if day > 0:
        return f"{text}+{day}"
    return text


def read_time(word):
    """The minute of a text; anything that no minute up to MOST_READ is written as is NoTime."""
    # A long row of figures must not come to int, which refuses some of them by itself.
    if not isinstance(word, str) or len(word) > LONGEST_READ:
        raise NoTime(word)
    parts = _parts(word)
    if not all([part.isdecimal() for part in parts]):
        raise NoTime(word)
    hours, minutes, day = [int(part) for part in parts]
    minute = day * DAY + hours * HOUR + minutes
    # Many texts come to the same minute, but just one of them is how it is written.
    if minute > MOST_READ or show_time(minute) != word:
        raise NoTime(word)
    return minute


def _parts(word):
    """What stands for the hours, the minutes and the day; without a sign for the day it is 0."""
    clock, plus, day = word.partition("+")
    hours, _, minutes = clock.partition(":")
    return [hours, minutes, day if plus == "+" else "0"]
