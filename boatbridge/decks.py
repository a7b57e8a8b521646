"""The deck: carts that cross by turns, and a part of it that is swung out for ships, minute by minute."""

from boatbridge.bridges import MOST_BORNE, Bridge
from boatbridge.deeds import DOWN, OFF, THROUGH
from boatbridge.errors import Late, NoThing, Taken
from boatbridge.hours import Rule
from boatbridge.loads import need_borne
from boatbridge.shores import is_bank
from boatbridge.stretches import Stretch
from boatbridge.swings import Swing
from boatbridge.things import is_count, is_name, is_whole
from boatbridge.traffic import Traffic

MOST_OUT = 60
MOST_REST = 1000
MOST_TURN = 20
MOST_LONG = 60


class Deck:
    """A Bridge in use: what is told for a minute comes then, and all goes on minute by minute."""

    def __init__(self, bridge, part, out=5, rest=30, turn=3, rule=None):
        _need(bridge, isinstance(bridge, Bridge))
        _need(part, _is_part(part, len(bridge)))
        _need(out, is_whole(out, 1, MOST_OUT))
        _need(rest, is_whole(rest, 0, MOST_REST))
        _need(turn, is_whole(turn, 1, MOST_TURN))
        _need(rule, rule is None or isinstance(rule, Rule))
        self._bridge = bridge
        self._part = part
        self._traffic = Traffic(bridge, turn)
        self._swing = Swing(out, rest, rule)
        self._now = 0
        # Tuples (minute, bank, name, number) in the order of telling: a cart with its weight,
        # or, with None for the bank, a ship with its long.
        self._told = []
        self._names = {}

    def cart(self, name, bank, weight, at=None):
        """Tells of a cart that comes to a bank; None: at now."""
        _need(name, is_name(name))
        _need(bank, is_bank(bank))
        _need(weight, is_whole(weight, 1, MOST_BORNE))
        _need(at, at is None or is_count(at))
        self._need_free(name)
        self._need_borne_alone(weight)
        self._tell(at, bank, name, weight)

    def ship(self, name, long=10, at=None):
        """Tells of a ship that comes, and needs so long to go through; None: at now."""
        _need(name, is_name(name))
        _need(long, is_whole(long, 1, MOST_LONG))
        _need(at, at is None or is_count(at))
        self._need_free(name)
        self._tell(at, None, name, long)

    def rest_hours(self, stretch):
        """Tells of a Stretch in which no cart goes on."""
        _need(stretch, isinstance(stretch, Stretch))
        self._traffic.rest_in(stretch)

    def go_to(self, minute):
        """Works all minutes up to but without this one; tells their events."""
        if minute < self._now:
            raise Late(self._now)
        events = []
        due = self._due()
        while due is not None and due < minute:
            events.extend(self._work(due))
            self._now = due + 1
            due = self._due()
        self._now = minute
        return events

    def now(self):
        """The next minute to be worked."""
        return self._now

    def mode(self):
        """Whether the part is down, swings out, is open or swings back."""
        return self._swing.mode()

    def turn(self):
        """The bank whose turn it is."""
        return self._traffic.turn()

    def on_deck(self):
        """The spans of the carts on the deck, by their names."""
        return self._traffic.places()

    def load(self):
        """The weights on the spans, from the near bank to the far one."""
        return self._traffic.load()

    def line(self, bank):
        """The names of the carts in a bank's line, in their order."""
        return self._traffic.names(bank)

    def ships(self):
        """The names of the ships that wait, in their order."""
        return self._swing.names()

    def _need_free(self, name):
        if name in self._names:
            raise Taken(name)

    def _need_borne_alone(self, weight):
        many = len(self._bridge) + 1
        for span in range(many):
            load = [0] * many
            load[span] = weight
            need_borne(self._bridge, load)

    def _tell(self, at, bank, name, number):
        minute = self._now if at is None else at
        if minute < self._now:
            raise Late(self._now)
        self._told.append((minute, bank, name, number))
        self._names[name] = True

    def _due(self):
        """The least minute from now on at which there is any work, or None; those ahead of it can be left out."""
        dues = [minute for minute, bank, name, number in self._told]
        dues.append(self._swing.due(self._now))
        dues.append(self._traffic.due(self._now, self.mode() == DOWN))
        return min([due for due in dues if due is not None], default=None)

    def _work(self, minute):
        """The work of one minute, in its order; tells its events."""
        self._come(minute)
        events = self._traffic.go_on(minute)
        events.extend(self._swing.go_on(minute))
        if self.mode() == DOWN:
            if not self._swing.is_called(minute):
                events.extend(self._traffic.let_on(minute))
            elif self._traffic.is_clear(self._part):
                events.extend(self._swing.swing_out(minute))
        for event in events:
            if event[1] in (OFF, THROUGH):
                del self._names[event[2]]
        return events

    def _come(self, minute):
        for at, bank, name, number in self._told:
            if at == minute and bank is None:
                self._swing.come(name, number)
            elif at == minute:
                self._traffic.come(bank, name, number)
        self._told = [told for told in self._told if told[0] > minute]


def _need(thing, is_right):
    """Refuses a thing that isn't right."""
    if not is_right:
        raise NoThing(thing)


def _is_part(thing, last):
    """Whether thing is a tuple of the numbers of two spans, the first no more than the last."""
    if not isinstance(thing, tuple) or len(thing) != 2:
        return False
    return is_whole(thing[0], 0, last) and is_whole(thing[1], thing[0], last)
