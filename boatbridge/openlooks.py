"""Looks at plans of openings and at papers, whoever wrote them."""

from boatbridge.passages import Passage, in_order, last_coming, long_of
from boatbridge.stretches import Stretch
from boatbridge.things import is_count
from boatbridge.weeks import Week


def is_plan(ships, plan, rule=None, out=5, gap=30):
    """Whether plan is a list of openings by which each ship is let by once."""
    if not isinstance(plan, list) or not all([_is_opening(thing) for thing in plan]):
        return False
    left = in_order(ships)
    if [name for stretch, names in plan for name in names] != [name for name, comes, long in left]:
        return False
    week = Week(rule)
    ready = 0
    for stretch, names in plan:
        some = left[:len(names)]
        left = left[len(names):]
        if not _lets_by(stretch, some, out, week) or stretch.first < ready:
            return False
        ready = stretch.behind + gap
    return True


def plan_price(ships, plan, price=0):
    """The price of all openings of a plan together."""
    coming = {name: comes for name, comes, long in ships}
    waits = [stretch.first - coming[name] for stretch, names in plan for name in names]
    return price * len(plan) + sum(waits)


def bars_less(ships, worth, paper, rule=None, out=5, gap=30, price=0):
    """Whether paper is one by which no plan costs less than worth; None: by which there is no plan."""
    if not isinstance(paper, list) or not all([_is_row(thing, len(ships)) for thing in paper]):
        return False
    # A truth would be found among the rows as the number that it is equal to.
    if isinstance(worth, bool) or (0, 0, worth) not in paper:
        return False
    leasts = {(many, ready): least for many, ready, least in paper}
    if len(leasts) < len(paper):
        return False
    passage = Passage(ships, rule, out, gap, price)
    return all([_holds(stand, leasts, passage, len(ships)) for stand in leasts])


def _is_opening(thing):
    """Whether thing is a tuple (Stretch, names), names a tuple of one or more."""
    if not isinstance(thing, tuple) or len(thing) != 2:
        return False
    stretch, names = thing
    return isinstance(stretch, Stretch) and isinstance(names, tuple) and len(names) > 0


def _lets_by(stretch, some, out, week):
    """Whether an opening of this Stretch, taken alone, lets these ships by."""
    long = long_of(some, out)
    if stretch.behind - stretch.first != long or stretch.first < last_coming(some):
        return False
    return week.soonest(stretch.first, long) == stretch.first


def _is_row(thing, most):
    """Whether thing is a row of a paper, of at most so many ships."""
    if not isinstance(thing, tuple) or len(thing) != 3:
        return False
    many, ready, least = thing
    return is_count(many) and many <= most and is_count(ready) and (least is None or is_count(least))


def _holds(stand, leasts, passage, most):
    """Whether a row's least is borne out by the rows of all openings that may come next."""
    least = leasts[stand]
    if stand[0] == most:
        return least == 0
    for price, _, then in passage.nexts(stand):
        if then not in leasts:
            return False
        if leasts[then] is not None and (least is None or least > price + leasts[then]):
            return False
    return True
