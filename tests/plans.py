"""Promises 20 and 22 word by word: all plans tried one by one, and papers looked through row by row."""

import itertools

LONGEST_LOOK = 9 * 1440


def ordered(ships):
    return sorted(ships, key=lambda ship: (ship[1], ship[0]))


def cuttings(ships):
    """All ways to cut the row of ships into rows of one or more."""
    row = ordered(ships)
    if not row:
        yield []
        return
    for cuts in itertools.product((False, True), repeat=len(row) - 1):
        told = [[row[0]]]
        for ship, cut in zip(row[1:], cuts, strict=True):
            if cut:
                told.append([ship])
            else:
                told[-1].append(ship)
        yield told


def begin_by_hand(some, ready, rule, out):
    """The soonest begin of one opening from ready on, minute by minute, and its behind; or None."""
    long = 2 * out + sum(ship[2] for ship in some)
    first = max([ready] + [ship[1] for ship in some])
    if rule is None:
        return first, first + long
    row = 0
    for minute in range(first, first + LONGEST_LOOK + long):
        row = row + 1 if rule.allows(minute) else 0
        if row == long:
            return minute + 1 - long, minute + 1
    return None


def least_by_hand(ships, rule=None, out=5, gap=30, price=0):
    """The least price of all plans that begin each opening as soon as it can; None where there is none."""
    prices = []
    for cutting in cuttings(ships):
        told, ready = 0, 0
        for some in cutting:
            found = begin_by_hand(some, ready, rule, out)
            if found is None:
                break
            told += price + sum(found[0] - ship[1] for ship in some)
            ready = found[1] + gap
        else:
            prices.append(told)
    return min(prices, default=None)


def is_plan_by_hand(ships, plan, rule=None, out=5, gap=30):
    """Whether a list of tuples (Stretch, names) of the right kinds is a plan."""
    row = [ship for _, names in plan for name in names for ship in ships if ship[0] == name]
    if row != ordered(ships) or len(row) != sum(len(names) for _, names in plan):
        return False
    ahead = None
    for stretch, names in plan:
        some = [ship for ship in ships if ship[0] in names]
        if not some or len(stretch) != 2 * out + sum(ship[2] for ship in some):
            return False
        if any(stretch.first < ship[1] for ship in some):
            return False
        if rule is not None and not all(rule.allows(minute) for minute in range(stretch.first, stretch.behind)):
            return False
        if ahead is not None and stretch.first < ahead + gap:
            return False
        ahead = stretch.behind
    return True


def bars_by_hand(ships, worth, paper, rule=None, out=5, gap=30, price=0):
    """Whether a list of tuples of three whole numbers, or None as the last one, bars less than worth."""
    if (0, 0, worth) not in paper or len({row[:2] for row in paper}) < len(paper):
        return False
    order = ordered(ships)
    for many, ready, least in paper:
        if many > len(order) or many == len(order) and least != 0:
            return False
        for then in range(many + 1, len(order) + 1):
            found = begin_by_hand(order[many:then], ready, rule, out)
            if found is None:
                continue
            ends = [row[2] for row in paper if row[:2] == (then, found[1] + gap)]
            if not ends:
                return False
            cost = price + sum(found[0] - ship[1] for ship in order[many:then])
            if ends[0] is not None and (least is None or least > cost + ends[0]):
                return False
    return True
