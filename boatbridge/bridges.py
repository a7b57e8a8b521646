"""Bridges: boats side by side and the spans on them, and how they are written."""

from boatbridge.boats import Boat
from boatbridge.errors import NoBoat, NoBridge, NoSpan
from boatbridge.things import is_name, is_whole, number_of

MOST_BOATS = 10
MOST_BORNE = 1000000


class Bridge:
    """Boats from the near bank to the far one, and what each span ahead of and behind them bears."""

    def __init__(self, boats, spans):
        if not _are_boats(boats) or not _are_spans(spans) or len(spans) != len(boats) + 1:
            raise NoBridge()
        self._boats = list(boats)
        self._spans = list(spans)

    def __eq__(self, other):
        return isinstance(other, Bridge) and self._boats == other._boats and self._spans == other._spans

    def __len__(self):
        return len(self._boats)

    def __str__(self):
        behind = [f"{boat} {span}" for boat, span in zip(self._boats, self._spans[1:])]
        return " ".join([str(self._spans[0]), *behind])

    def boats(self):
        """The Boats, from the near bank to the far one."""
        return list(self._boats)

    def spans(self):
        """What each span bears, from the near bank to the far one."""
        return list(self._spans)

    def boat(self, name):
        """The Boat of this name."""
        for boat in self._boats:
            if boat.name == name:
                return boat
        raise NoBoat(name)

    def with_boat(self, at, boat):
        """Another Bridge, with this Boat in the place of the one at this number."""
        if not is_whole(at, 0, len(self._boats) - 1):
            raise NoSpan(at)
        boats = self.boats()
        boats[at] = boat
        return Bridge(boats, self._spans)


def read_bridge(text):
    """The Bridge that is written so; anything that none is written as is NoBridge."""
    if not isinstance(text, str):
        raise NoBridge()
    words = text.split(" ")
    # A word that is no boat or no span comes to None, and as many as don't fit are too many:
    # Bridge itself refuses both.
    return Bridge([_boat_of(word) for word in words[1::2]], [_span_of(word) for word in words[::2]])


def _are_boats(thing):
    if not isinstance(thing, list) or not 1 <= len(thing) <= MOST_BOATS:
        return False
    if not all([isinstance(boat, Boat) for boat in thing]):
        return False
    names = [boat.name for boat in thing]
    return all([names.count(name) == 1 for name in names])


def _are_spans(thing):
    return isinstance(thing, list) and all([is_whole(span, 1, MOST_BORNE) for span in thing])


def _boat_of(word):
    """The Boat that is written as this word, or None."""
    name, _, figures = word.partition(":")
    bears = number_of(figures, MOST_BORNE)
    if is_name(name) and is_whole(bears, 1, MOST_BORNE):
        return Boat(name, bears)
    return None


def _span_of(word):
    """The number that is written as this word, or None."""
    return number_of(word, MOST_BORNE)
