"""Ships in the order in which they are let by, and the openings that may let the next ones by."""

from boatbridge.stretches import Stretch
from boatbridge.weeks import Week


class Passage:
    """The ships, and all that tells when they may be let by, and at what price."""

    def __init__(self, ships, rule, out, gap, price):
        self._ships = in_order(ships)
        self._week = Week(rule)
        self._out = out
        self._gap = gap
        self._price = price

    def nexts(self, stand):
        """The openings that may come next, each begun as soon as it can.

        A stand is a tuple (many, ready): so many ships are let by, and the next opening begins
        from ready on. Told are tuples (price, opening, stand), the stand the one behind the opening.
        """
        many, ready = stand
        told = []
        for then in range(many + 1, len(self._ships) + 1):
            some = self._ships[many:then]
            long = long_of(some, self._out)
            begin = self._week.soonest(max(ready, last_coming(some)), long)
            if begin is not None:
                stretch = Stretch(begin, begin + long)
                names = tuple([name for name, comes, lasts in some])
                told.append((
                    self._price + waited_by(some, begin), (stretch, names), (then, stretch.behind + self._gap),
                ))
        return told


def in_order(ships):
    """The ships by their coming, those of one minute by names."""
    return sorted(ships, key=lambda ship: (ship[1], ship[0]))


def long_of(some, out):
    """How long an opening lasts that lets these ships by."""
    return out + sum([long for name, comes, long in some]) + out


def last_coming(some):
    """The minute at which the last of these ships comes."""
    return max([comes for name, comes, long in some])


def waited_by(some, begin):
    """How many minutes these ships wait, all together, for an opening that begins then."""
    return sum([begin - comes for name, comes, long in some])
