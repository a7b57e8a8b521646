"""The part of the bridge that is swung out for ships, and the ships' line."""

from boatbridge.deeds import BACK, DOWN, OUT, THROUGH
from boatbridge.weeks import Week

OPEN = "open"


class Swing:
    """Where the part is, from when on and how long, and the ships that wait for it."""

    def __init__(self, out, rest, rule):
        self._out = out
        self._rest = rest
        self._week = Week(rule)
        self._line = []
        self._mode = DOWN
        # While it is down nothing is over ahead of a call, and from _ready on it may be called.
        self._over = None
        self._ready = 0

    def mode(self):
        """Whether the part is down, swings out, is open or swings back."""
        return self._mode

    def names(self):
        """The ships that wait, in their order."""
        return [name for name, long in self._line]

    def come(self, name, long):
        """Puts a ship at the end of the line."""
        self._line.append((name, long))

    def go_on(self, minute):
        """Goes on where the minute ends swinging or a ship's passage; tells the events."""
        if self._over != minute:
            return []
        if self._mode == BACK:
            self._mode = DOWN
            self._over = None
            self._ready = minute + self._rest
            return [(minute, DOWN)]
        if self._line:
            name, long = self._line.pop(0)
            self._mode = OPEN
            self._over = minute + long
            return [(minute, THROUGH, name)]
        self._mode = BACK
        self._over = minute + self._out
        return [(minute, BACK)]

    def is_called(self, minute):
        """Whether a ship waits at the minute for the part that has rested, and the rule allows it."""
        return bool(self._line) and minute >= self._ready and self._week.soonest(minute, 1) == minute

    def swing_out(self, minute):
        """Swings the part out; tells the event."""
        self._mode = OUT
        self._over = minute + self._out
        return [(minute, OUT)]

    def due(self, now):
        """The least minute from now on at which something is over or it is called, or None."""
        if self._mode != DOWN:
            return self._over
        if self._line:
            return self._week.soonest(max(now, self._ready), 1)
        return None
