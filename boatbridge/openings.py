"""The openings by which ships are let by at the least price, and a paper that shows it."""

from boatbridge.passages import Passage

# No ship is let by yet, and the first opening may begin at any minute.
START = (0, 0)


def openings(ships, rule=None, out=5, gap=30, price=0):
    """The least price of a plan, such a plan, and a paper that bars less; None, None where there is no plan."""
    nexts = _all_nexts(Passage(ships, rule, out, gap, price))
    leasts = _leasts(nexts, len(ships))
    paper = [(many, ready, leasts[many, ready]) for many, ready in sorted(nexts)]
    if leasts[START] is None:
        return None, None, paper
    return leasts[START], _plan(nexts, leasts, len(ships)), paper


def _all_nexts(passage):
    """By each stand that can be reached: the openings that may come next."""
    found = {}
    ahead = [START]
    while ahead:
        stand = ahead.pop()
        if stand not in found:
            found[stand] = passage.nexts(stand)
            ahead.extend([then for price, opening, then in found[stand]])
    return found


def _leasts(nexts, many):
    """By each stand: the least price of all openings still to come, or None where there is no way."""
    leasts = {}
    # Behind an opening more ships are let by, so that a stand's nexts have their least ahead of it.
    for stand in sorted(nexts, reverse=True):
        prices = [price + leasts[then] for price, opening, then in nexts[stand] if leasts[then] is not None]
        leasts[stand] = 0 if stand[0] == many else min(prices, default=None)
    return leasts


def _plan(nexts, leasts, many):
    """The openings of a least way from the start to all ships."""
    plan = []
    stand = START
    while stand[0] < many:
        cheap = [
            (opening, then)
            for price, opening, then in nexts[stand]
            if leasts[then] is not None and price + leasts[then] == leasts[stand]
        ]
        opening, stand = cheap[0]
        plan.append(opening)
    return plan
