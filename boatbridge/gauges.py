"""The gauge upstream: how the bridge stands by its readings, and the last call to take it up."""

from boatbridge.errors import TooLate
from boatbridge.stretches import Stretch

WATER = "water"
ICE = "ice"
LOST = "lost"
SHUT = "shut"
SLOW = "slow"
FREE = "free"


class Gauge:
    """How long the water takes from the gauge to the bridge, and from what water and ice on it stands how."""

    def __init__(self, lag=60, high=200, top=400, thin=5, thick=20):
        self.lag = lag
        self.high = high
        self.top = top
        self.thin = thin
        self.thick = thick

    def stand(self, readings, minute):
        """How the bridge stands at the minute: lost, shut, slow or free."""
        water = _number_at(readings, WATER, minute - self.lag)
        ice = _number_at(readings, ICE, minute)
        if water >= self.top:
            return LOST
        if ice >= self.thick:
            return SHUT
        if water >= self.high or ice >= self.thin:
            return SLOW
        return FREE

    def stands(self, readings, within):
        """The stands within a Stretch: tuples (Stretch, stand) side by side, as few as can be."""
        inside = [minute for minute in self._changes(readings) if within.first < minute < within.behind]
        cuts = sorted([within.first, *inside])
        told = []
        for first, behind in zip(cuts, [*cuts[1:], within.behind]):
            # Readings of one minute cut nothing out, and neither does an empty Stretch.
            if first < behind:
                stand = self.stand(readings, first)
                if told and told[-1][1] == stand:
                    told[-1] = (Stretch(told[-1][0].first, behind), stand)
                else:
                    told.append((Stretch(first, behind), stand))
        return told

    def last_call(self, readings, now, long=120):
        """The last minute at which to begin to take the bridge up, by what was read up to now; or None."""
        known = [reading for reading in readings if reading[0] <= now]
        ahead = [minute for minute in self._changes(known) if minute > now]
        lost = [minute for minute in [now, *ahead] if self.stand(known, minute) == LOST]
        if not lost:
            return None
        first = min(lost)
        if first - long < now:
            raise TooLate(first)
        return first - long

    def _changes(self, readings):
        """The minutes, in any order, at which something read comes to the bridge."""
        return [minute + self.lag if kind == WATER else minute for minute, kind, number in readings]


def _number_at(readings, kind, until):
    """The number of the last reading of this kind up to a minute; 0 where there is none."""
    latest = 0
    told = 0
    for minute, read, number in readings:
        # Of one minute the later one in the list counts.
        if read == kind and latest <= minute <= until:
            latest = minute
            told = number
    return told
