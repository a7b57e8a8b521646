"""Promise 12 word by word, in quarters and day by day, to hold the program's own way against it."""

import itertools


def carried(load, out=None):
    """What each place bears, in halves: each weight, or the two as one where a boat is out, half on each side."""
    last = len(load) - 1
    # Weights with the two places that they lie on; place -1 and the last one are the banks.
    lying = [(load[at], at - 1, at) for at in range(last + 1)]
    if out is not None:
        lying[out:out + 2] = [(load[out] + load[out + 1], out - 1, out + 1)]
    return [sum(weight for weight, near, far in lying if at in (near, far)) for at in range(last)]


def row_keeps(old, new, load, row):
    """Whether all boats that are in bear the load ahead, while each is out, and behind; bearings alone."""
    inside = list(old)
    times = [(list(inside), None)]
    for out in row:
        times.append((list(inside), out))
        inside[out] = new[out]
        times.append((list(inside), None))
    return all(
        borne <= 2 * bears
        for boats, out in times
        for at, (bears, borne) in enumerate(zip(boats, carried(load, out), strict=True))
        if at != out
    )


def first_row(old, new, load):
    """The first of all rows tried one by one, or None."""
    for row in itertools.permutations(range(len(old))):
        if row_keeps(old, new, load, row):
            return list(row)
    return None


def no_change(old, new, load):
    """The fields of NoChange by promise 13, where there is no row."""
    many = len(old)
    for out in range(many):
        borne = carried(load, out)
        for beside in (out - 1, out + 1):
            if 0 <= beside < many and borne[beside] > 2 * max(old[beside], new[beside]):
                return (out, None)
    for at in range(many - 1):
        # While the one is out the other must be the old one, and the other way about; or both the new one.
        right, left = carried(load, at)[at + 1], carried(load, at + 1)[at]
        if right > 2 * new[at + 1] and left > 2 * new[at]:
            return (at, at + 1)
        if right > 2 * old[at + 1] and left > 2 * old[at]:
            return (at, at + 1)
    raise AssertionError("there is a row")
