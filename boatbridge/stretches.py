"""Stretches of minutes, and what lists of them have together, and leave free."""

from boatbridge.errors import NoStretch
from boatbridge.times import show_time


class Stretch:
    """The minutes from first up to but without behind; just first where behind is None."""

    def __init__(self, first, behind=None):
        if behind is None:
            behind = first + 1
        if behind < first:
            raise NoStretch(first, behind)
        self.first = first
        self.behind = behind

    def __eq__(self, other):
        return isinstance(other, Stretch) and self.first == other.first and self.behind == other.behind

    def __len__(self):
        return len(range(self.first, self.behind))

    def __str__(self):
        return f"{show_time(self.first)}-{show_time(self.behind)}"

    def __repr__(self):
        return f"Stretch({self.first}, {self.behind})"


def meet(one, other):
    """The Stretch of the minutes that both have, or None."""
    first = max(one.first, other.first)
    behind = min(one.behind, other.behind)
    if first < behind:
        return Stretch(first, behind)
    return None


def joined(some, apart=0):
    """The Stretches, rising, with those at most apart minutes apart put together."""
    full = [stretch for stretch in some if len(stretch) > 0]
    told = []
    for stretch in sorted(full, key=lambda row: row.first):
        if told and stretch.first - told[-1].behind <= apart:
            # One that lies within the one ahead ends first, and must not cut it short.
            told[-1] = Stretch(told[-1].first, max(told[-1].behind, stretch.behind))
        else:
            told.append(stretch)
    return told


def gaps(some, within):
    """The Stretches, rising, of the minutes of within that none of some has."""
    told = []
    first = within.first
    for stretch in joined(some):
        behind = min(stretch.first, within.behind)
        if first < behind:
            told.append(Stretch(first, behind))
        first = max(first, stretch.behind)
    if first < within.behind:
        told.append(Stretch(first, within.behind))
    return told


def minutes_in(some):
    """How many minutes the Stretches have together, each counted once."""
    return sum([len(stretch) for stretch in joined(some)])
