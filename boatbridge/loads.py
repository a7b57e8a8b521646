"""Loads: weights on the spans of a bridge, and whether spans and boats bear them."""

from boatbridge.errors import NoSpan, Overload
from boatbridge.things import is_whole


def halves(bridge, load):
    """What each boat bears, in halves: what lies on the spans ahead of it and behind it, both added."""
    return [load[at] + load[at + 1] for at in range(len(bridge))]


def halves_without(bridge, load, out):
    """What each boat bears, in halves, while the boat at number out is out."""
    told = halves(bridge, load)
    told[out] = 0
    # Both its spans are one weight then, so that a neighbour has a half of the farther one as well.
    if out > 0:
        told[out - 1] += load[out + 1]
    if out + 1 < len(told):
        told[out + 1] += load[out]
    return told


def spare(boat, many):
    """How many halves more the boat bears beside so many; below 0, by how many these are too many."""
    return 2 * boat.bears - many


def need_borne(bridge, load):
    """Refuses a load that isn't borne with Overload, of the first span, else of the first boat."""
    for at, bears in enumerate(bridge.spans()):
        if load[at] > bears:
            raise Overload("span", at, load[at] - bears)
    borne = halves(bridge, load)
    for at, boat in enumerate(bridge.boats()):
        if spare(boat, borne[at]) < 0:
            raise Overload("boat", at, -spare(boat, borne[at]))


def is_borne(bridge, load):
    """Whether all spans and boats bear the load."""
    try:
        need_borne(bridge, load)
    except Overload:
        return False
    return True


def room_at(bridge, load, at):
    """The greatest weight that can be put on the span at this number beside a load that is borne."""
    if not is_whole(at, 0, len(bridge)):
        raise NoSpan(at)
    # What is put on a span adds as many halves to each boat beside it.
    boats = [spare(boat, many) for boat, many in zip(bridge.boats(), halves(bridge, load))]
    return min([bridge.spans()[at] - load[at], *boats[max(at - 1, 0):at + 1]])


def full_load(bridge, load):
    """The load; one without any weights where it is None."""
    if load is None:
        return [0] * (len(bridge) + 1)
    return load
