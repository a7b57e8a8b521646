"""Carts: their lines at both banks, whose turn it is, and how they go over the deck."""

from boatbridge.deeds import OFF, ON, TURN
from boatbridge.loads import is_borne
from boatbridge.shores import FAR, NEAR, other_bank
from boatbridge.stretches import joined


class Traffic:
    """The carts that wait and those on the deck.

    All on the deck came from the bank whose turn it is, as the turn goes over while none is on it.
    """

    def __init__(self, bridge, most):
        self._bridge = bridge
        self._most = most
        self._lines = {NEAR: [], FAR: []}
        self._bank = NEAR
        self._went = 0
        self._deck = []
        self._rests = []

    def turn(self):
        """The bank whose turn it is."""
        return self._bank

    def names(self, bank):
        """The carts in a bank's line, in their order."""
        return [name for name, weight in self._lines[bank]]

    def places(self):
        """The spans of the carts on the deck, by their names."""
        return {name: span for name, weight, span in self._deck}

    def load(self):
        """The weights on the spans."""
        return self._load_of(self._deck)

    def come(self, bank, name, weight):
        """Puts a cart at the end of its bank's line."""
        self._lines[bank].append((name, weight))

    def rest_in(self, stretch):
        """No cart goes on, and no turn goes over, in this Stretch."""
        self._rests = joined([*self._rests, stretch])

    def go_on(self, minute):
        """Moves the carts on the deck by one span; tells the events of those that are off then."""
        moved = self._moved(self._deck, 1)
        self._deck = [cart for cart in moved if self._has_span(cart[2])]
        bank = other_bank(self._bank)
        return [(minute, OFF, name, bank) for name, weight, span in moved if not self._has_span(span)]

    def is_clear(self, part):
        """Whether no cart is on a span of the part, nor has one ahead of it."""
        first, last = part
        if self._bank == NEAR:
            return all([span > last for name, weight, span in self._deck])
        return all([span < first for name, weight, span in self._deck])

    def let_on(self, minute):
        """Turns over and lets the first cart on where that may be; tells the events."""
        if self._next_free(minute) != minute:
            return []
        events = []
        if self._may_turn():
            self._bank = other_bank(self._bank)
            self._went = 0
            events.append((minute, TURN, self._bank))
        if self._may_go_on():
            self._deck = self._with_first()
            name, _ = self._lines[self._bank].pop(0)
            self._went += 1
            events.append((minute, ON, name, self._bank))
        return events

    def due(self, now, is_down):
        """The least minute from now on at which a cart moves, or may go on where the part is down; or None."""
        if self._deck:
            return now
        # Each cart is borne alone, so that onto an empty deck one goes as soon as it may.
        if is_down and (self._lines[NEAR] or self._lines[FAR]):
            return self._next_free(now)
        return None

    def _next_free(self, minute):
        """The least minute from this one on in no hours of rest."""
        for stretch in self._rests:
            if stretch.first <= minute < stretch.behind:
                return stretch.behind
        return minute

    def _may_turn(self):
        if self._deck or not self._lines[other_bank(self._bank)]:
            return False
        return not self._lines[self._bank] or self._went >= self._most

    def _may_go_on(self):
        if not self._lines[self._bank]:
            return False
        if self._went >= self._most and self._lines[other_bank(self._bank)]:
            return False
        # No cart is on the bank's span then: the one ahead went on to the next span this minute.
        return self._is_borne_on(self._with_first())

    def _with_first(self):
        """The carts on the deck, and behind them the first one of the line whose turn it is."""
        name, weight = self._lines[self._bank][0]
        return [*self._deck, (name, weight, self._first_span())]

    def _is_borne_on(self, carts):
        """Whether the bridge bears the carts now and in each minute until the last one is off."""
        loads = [self._load_of(self._moved(carts, minutes)) for minutes in range(len(self._bridge) + 1)]
        return all([is_borne(self._bridge, load) for load in loads])

    def _load_of(self, carts):
        load = [0] * (len(self._bridge) + 1)
        for _, weight, span in carts:
            if self._has_span(span):
                load[span] += weight
        return load

    def _moved(self, carts, minutes):
        """The carts where they are so many minutes on."""
        by = minutes if self._bank == NEAR else -minutes
        return [(name, weight, span + by) for name, weight, span in carts]

    def _first_span(self):
        return 0 if self._bank == NEAR else len(self._bridge)

    def _has_span(self, span):
        return 0 <= span <= len(self._bridge)
