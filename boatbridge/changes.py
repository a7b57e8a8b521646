"""The order in which boats are changed for others while a load lies on the bridge."""

from boatbridge.bridges import Bridge
from boatbridge.errors import NoChange
from boatbridge.loads import full_load, halves_without, need_borne, spare


def change_order(bridge, boats, load=None):
    """The first row of the boats' numbers, as lists are ordered, that keeps the load."""
    lying = full_load(bridge, load)
    need_borne(bridge, lying)
    need_borne(Bridge(boats, bridge.spans()), lying)
    pairs = _pairs(bridge, boats, lying)
    for at in range(len(bridge) - 1):
        if (at, at + 1) in pairs and (at + 1, at) in pairs:
            raise NoChange(at, at + 1)
    return _first_row(len(bridge), pairs)


def _pairs(bridge, boats, load):
    """The pairs of numbers of which the one has to go ahead of the other."""
    found = []
    old = bridge.boats()
    for out in range(len(old)):
        borne = halves_without(bridge, load, out)
        for beside in _neighbours(out, len(old)):
            by_old = spare(old[beside], borne[beside]) >= 0
            by_new = spare(boats[beside], borne[beside]) >= 0
            if not by_old and not by_new:
                raise NoChange(out, None)
            if not by_old:
                found.append((beside, out))
            if not by_new:
                found.append((out, beside))
    return found


def _neighbours(at, many):
    return [beside for beside in (at - 1, at + 1) if 0 <= beside < many]


def _first_row(many, pairs):
    # Pairs are of neighbours alone, and none goes both ways, so that they never run in a ring:
    # some boat may always go next, and the least of them makes the first row.
    row = []
    while len(row) < many:
        row.append(min([at for at in range(many) if at not in row and _may_go(at, row, pairs)]))
    return row


def _may_go(at, row, pairs):
    """Whether all that have to go ahead of this one are in the row."""
    return all([one in row for one, other in pairs if other == at])
