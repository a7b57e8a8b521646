"""The desk: decks by names, told row by row, and each row answered with a text."""

from boatbridge.banks import books_of
from boatbridge.bridges import read_bridge
from boatbridge.decks import Deck
from boatbridge.deskrows import BRIDGE, RULE, read_row
from boatbridge.errors import NoDeck, NoRow
from boatbridge.hourtexts import read_rule
from boatbridge.shores import NEAR
from boatbridge.stretches import Stretch
from boatbridge.times import show_time
from boatbridge.waits import beyond, waits

DONE = "ok"
NONE = "none"
LACKING = "-"


class Watch:
    """A Deck as the desk keeps it: what it is made of, who was told to come, and all its events."""

    def __init__(self, bridge, part, options, rule):
        self.bridge = bridge
        self.part = part
        self.options = options
        made = dict(options)
        made["rule"] = rule
        self.deck = Deck(bridge, part, **made)
        self.comings = []
        self.events = []


def _cart(watch, values, options):
    name, bank, weight = values
    at = options.get("at", watch.deck.now())
    watch.deck.cart(name, bank, weight, at)
    watch.comings.append((name, at))
    return DONE


def _ship(watch, values, options):
    name = values[0]
    deck = watch.deck
    at = options.get("at", deck.now())
    deck.ship(name, **options)
    watch.comings.append((name, at))
    return DONE


def _rest(watch, values, options):
    first, behind = values
    watch.deck.rest_hours(Stretch(first, behind))
    return DONE


def _go(watch, values, options):
    events = watch.deck.go_to(values[0])
    watch.events.extend(events)
    told = [" ".join([show_time(event[0]), *event[1:]]) for event in events]
    return "; ".join(told) if told else NONE


def _deck(watch, values, options):
    deck = watch.deck
    places = deck.on_deck()
    return " ".join([deck.mode(), deck.turn(), *[f"{name}:{places[name]}" for name in sorted(places)]])


def _line(watch, values, options):
    return _listed(watch.deck.line(values[0]))


def _ships(watch, values, options):
    return _listed(watch.deck.ships())


def _waits(watch, values, options):
    now = watch.deck.now()
    come = sorted([coming for coming in watch.comings if coming[1] < now], key=lambda coming: coming[1])
    if "most" not in options:
        return _listed([f"{name}:{_shown(minutes)}" for name, minutes in waits(watch.events, come)])
    first = beyond(watch.events, come, options["most"], now - 1)
    if first is None:
        return NONE
    name, minute, other = first
    return f"{name} {show_time(minute)} {_shown(other)}"


def _book(watch, values, options):
    near, far = books_of(watch.events)
    book = near if values[0] == NEAR else far
    return " / ".join(str(book).split("\n"))


def _listed(words):
    return " ".join(words) if words else NONE


def _shown(thing):
    return LACKING if thing is None else str(thing)


# By the word of a row: what is asked of a deck that the desk has, with the values of the words
# behind its name, and the options.
ANSWERS = {
    "cart": _cart,
    "ship": _ship,
    "rest": _rest,
    "go": _go,
    "deck": _deck,
    "line": _line,
    "ships": _ships,
    "waits": _waits,
    "book": _book,
}


class Desk:
    """Keeps Decks by names, and answers rows."""

    def __init__(self):
        self._watches = {}

    def say(self, row):
        """Does what the row tells; answers with a text."""
        deed, values, text, options = read_row(row)
        name = values[0]
        if deed == BRIDGE:
            bridge = read_bridge(text)
            part = (values[1], values[2])
            if part[1] > len(bridge):
                raise NoRow(row)
            self._watches[name] = Watch(bridge, part, options, None)
            return DONE
        if name not in self._watches:
            raise NoDeck(name)
        watch = self._watches[name]
        if deed == RULE:
            self._watches[name] = Watch(watch.bridge, watch.part, watch.options, read_rule(text))
            return DONE
        answer = ANSWERS[deed]
        return answer(watch, values[1:], options)
