"""How long carts and ships waited, from their coming to where they go on or through."""

from boatbridge.deeds import ON, THROUGH
from boatbridge.errors import NoWaits


def waits(events, comings):
    """The waits as the comings stand: tuples (name, minutes), None for the minutes of one that doesn't end."""
    ends = {}
    for minute, name in _let_by(events):
        ends.setdefault(name, []).append(minute)
    told = [(name, None) for name, comes in comings]
    for at in sorted(range(len(comings)), key=lambda place: comings[place][1]):
        name, comes = comings[at]
        left = ends.get(name, [])
        if left:
            told[at] = (name, left.pop(0) - comes)
    return told


def ranked(waited, by="long", backward=False):
    """The waits, the longest first (by "long"), by "name", or as they stand (by "coming"); or turned about."""
    told = list(waited)
    if by == "long":
        told = sorted(told, key=_long_rank)
    if by == "name":
        told = sorted(told, key=lambda wait: wait[0])
    return told[::-1] if backward else told


def longest(waited):
    """The minutes of the longest wait that ends, or None."""
    return max(_ended(waited), default=None)


def mean_wait(waited):
    """The minutes of all waits that end, divided by how many they are: (whole, rest)."""
    minutes = _ended(waited)
    if not minutes:
        raise NoWaits(len(waited))
    return divmod(sum(minutes), len(minutes))


def beyond(events, comings, most, until):
    """The first wait that goes beyond most up to a minute: (name, minute, the one let by ahead); or None."""
    over = [
        (comes + most + 1, name)
        for (name, minutes), (_, comes) in zip(waits(events, comings), comings)
        if (minutes is None or minutes > most) and comes + most + 1 <= until
    ]
    if not over:
        return None
    minute, name = min(over)
    ahead = [other for at, other in _let_by(events) if at < minute]
    return name, minute, ahead[-1] if ahead else None


def _let_by(events):
    """Minute and name of all that went on or through."""
    return [(event[0], event[2]) for event in events if event[1] in (ON, THROUGH)]


def _ended(waited):
    return [minutes for name, minutes in waited if minutes is not None]


def _long_rank(wait):
    """What puts those without an end ahead of all, and then the longest."""
    name, minutes = wait
    return (0, 0) if minutes is None else (1, -minutes)
