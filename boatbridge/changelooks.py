"""A look at an order in which boats are changed: whether it keeps the load."""

from boatbridge.loads import full_load, halves, halves_without, spare
from boatbridge.things import is_whole


def keeps(bridge, boats, load, thing):
    """Whether thing is a row of the boats' numbers by which all that are in bear the load at all times."""
    if not _is_row(thing, len(bridge)):
        return False
    lying = full_load(bridge, load)
    inside = bridge.boats()
    whole = halves(bridge, lying)
    for out in thing:
        if not _all_bear(inside, whole) or not _all_bear(inside, halves_without(bridge, lying, out)):
            return False
        inside[out] = boats[out]
    return _all_bear(inside, whole)


def _is_row(thing, many):
    """Whether thing is a list that has each number below many once."""
    if not isinstance(thing, list) or not all([is_whole(at, 0, many - 1) for at in thing]):
        return False
    return sorted(thing) == list(range(many))


def _all_bear(boats, borne):
    return all([spare(boat, many) >= 0 for boat, many in zip(boats, borne)])
