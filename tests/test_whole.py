"""Promises 1 to 4 over the whole: rows said at a desk, held against a Deck, Books and waits told the same."""

import copy
import random
import unittest

from boatbridge.banks import books_of, crossings
from boatbridge.boats import Boat
from boatbridge.books import Book, read_book
from boatbridge.bridges import Bridge, read_bridge
from boatbridge.changes import change_order
from boatbridge.changelooks import keeps
from boatbridge.decks import Deck
from boatbridge.desk import Desk
from boatbridge.errors import Overload, Taken
from boatbridge.gauges import Gauge
from boatbridge.hourtexts import read_rule
from boatbridge.loads import is_borne
from boatbridge.openings import openings
from boatbridge.openlooks import bars_less, is_plan
from boatbridge.stretches import Stretch
from boatbridge.times import show_time
from boatbridge.waits import beyond, longest, mean_wait, ranked, waits
from boatbridge.windows import allowed_in, first_allowed
from boatbridge.wires import read_wire

TEXT = "40 anna:40 30 berta:25 30 carla:40 40"
RULES = ("( both )", "( either )", "00:20-02:00", "( unless 00:30-04:00 )", "( either 00:10-00:20 01:00-01:05 )")


class Told:
    """A Deck, and all that was told to it and by it, kept as the desk should keep it."""

    def __init__(self, options, rule=None):
        self.options = options
        self.deck = Deck(read_bridge(TEXT), (1, 2), rule=rule, **options)
        self.comings = []
        self.events = []

    def tell(self, name, at, ask):
        try:
            ask()
        except (Taken, Overload) as refusal:
            return type(refusal)
        self.comings.append((name, at))
        return "ok"


def said(desk, row):
    """What the desk answers, or the class of what it refuses."""
    try:
        return desk.say(row)
    except (Taken, Overload) as refusal:
        return type(refusal)


class DeskAndDeckTest(unittest.TestCase):
    def step(self, chance, desk, told):
        """One row, and the same told to the deck; their answers are the same."""
        name = chance.choice(["a", "b", "c", "d", "e", "f", "g"])
        now = told.deck.now()
        at = now + chance.choice([0, 0, 3, 20])
        kind = chance.choice(["cart", "cart", "cart", "ship", "rest", "go", "go", "go"])
        if kind == "cart":
            bank, weight = chance.choice(["near", "far"]), chance.randint(1, 33)
            row = f"cart x {name} {bank} {weight} at={at}" if at > now else f"cart x {name} {bank} {weight}"
            answer = told.tell(name, at, lambda: told.deck.cart(name, bank, weight, at))
        elif kind == "ship":
            long = chance.choice([10, 1, 25])
            options = [f"at={at}"] if at > now else []
            options += [f"long={long}"] if long != 10 else []
            row = " ".join(["ship x", name, *chance.sample(options, len(options))])
            answer = told.tell(name, at, lambda: told.deck.ship(name, long, at))
        elif kind == "rest":
            stretch = Stretch(at, at + chance.choice([0, 2, 15]))
            row = f"rest x {show_time(stretch.first)} {show_time(stretch.behind)}"
            told.deck.rest_hours(stretch)
            answer = "ok"
        else:
            minute = now + chance.choice([0, 1, 2, 10, 40])
            row = f"go x {show_time(minute)}"
            events = told.deck.go_to(minute)
            told.events += events
            answer = "; ".join(" ".join([show_time(event[0]), *event[1:]]) for event in events) or "none"
        self.assertEqual(said(desk, row), answer)

    def look(self, desk, told, most):
        """All that the desk answers without any change."""
        deck = told.deck
        places = [f"{name}:{span}" for name, span in sorted(deck.on_deck().items())]
        self.assertEqual(desk.say("deck x"), " ".join([deck.mode(), deck.turn(), *places]))
        for bank in ("near", "far"):
            self.assertEqual(desk.say(f"line x {bank}"), " ".join(deck.line(bank)) or "none")
        self.assertEqual(desk.say("ships x"), " ".join(deck.ships()) or "none")
        come = sorted((coming for coming in told.comings if coming[1] < deck.now()), key=lambda coming: coming[1])
        spelled = [f"{name}:{'-' if minutes is None else minutes}" for name, minutes in waits(told.events, come)]
        self.assertEqual(desk.say("waits x"), " ".join(spelled) or "none")
        first = beyond(told.events, told.comings, most, deck.now() - 1)
        answer = "none" if first is None else f"{first[0]} {show_time(first[1])} {first[2] or '-'}"
        self.assertEqual(desk.say(f"waits x most={most}"), answer)
        for book in books_of(told.events):
            self.assertEqual(desk.say(f"book x {book.bank}"), str(book).replace("\n", " / "))

    def test_rows_of_all_kinds(self):
        chance = random.Random(30)
        for run in range(60):
            options = {"out": chance.choice([1, 5]), "rest": chance.choice([0, 30]), "turn": chance.choice([1, 3])}
            desk = Desk()
            written = [f"{name}={number}" for name, number in options.items()]
            self.assertEqual(desk.say(" ".join(["bridge x 1 2", TEXT, *chance.sample(written, 3)])), "ok")
            told = Told(options)
            if run % 2:
                rule = chance.choice(RULES)
                self.assertEqual(desk.say(f"rule x {rule}"), "ok")
                told = Told(options, read_rule(rule))
            for _ in range(60):
                self.step(chance, desk, told)
                self.look(desk, told, chance.choice([0, 1, 5, 20]))

    def test_from_rows_to_crossings_and_waits(self):
        desk = Desk()
        for row in (
            f"bridge pont 1 2 {TEXT} rest=10", "rule pont ( either 00:00-12:00 ( days 6 ) )",
            "cart pont anna near 20", "cart pont berta near 20", "cart pont carla far 5 at=1",
            "ship pont ida at=2 long=4", "rest pont 00:30 00:40", "cart pont dora far 7 at=35",
        ):
            self.assertEqual(desk.say(row), "ok")
        events = desk.say("go pont 02:00").split("; ")
        near, far = (read_book(desk.say(f"book pont {bank}").replace(" / ", "\n")) for bank in ("near", "far"))
        told = crossings(far, near)
        self.assertEqual([row[:2] for row in told], [
            ("anna", "near"), ("berta", "near"), ("carla", "far"), ("dora", "far"),
        ])
        for name, bank, on, off in told:
            over = "far" if bank == "near" else "near"
            self.assertIn(f"{show_time(on)} on {name} {bank}", events)
            self.assertIn(f"{show_time(off)} off {name} {over}", events)
        comings = {"anna": 0, "berta": 0, "carla": 1, "ida": 2, "dora": 35}
        waited = {name: on - comings[name] for name, _, on, _ in told}
        through = [event for event in events if " through " in event]
        # Berta is off the part at 4; swinging out takes five minutes.
        self.assertEqual(through, ["00:09 through ida"])
        waited["ida"] = 7
        self.assertEqual(desk.say("waits pont"), " ".join(f"{name}:{waited[name]}" for name in comings))


class DayTest(unittest.TestCase):
    """Promise 4: a day at the bridge, all stages together."""

    def test_the_openings_told_wait_least_as_their_paper_shows(self):
        ships = [("ida", 30, 10), ("hanna", 32, 5), ("gerda", 90, 20)]
        rule = read_rule("( both 00:20-12:00 )")
        worth, plan, paper = openings(ships, rule, out=5, gap=30)
        self.assertIs(is_plan(ships, plan, rule), True)
        self.assertIs(bars_less(ships, worth, paper, rule), True)
        self.assertIs(bars_less(ships, worth + 1, paper, rule), False)

    def test_each_ship_goes_through_in_the_first_opening_that_the_rule_gives(self):
        rule = read_rule("( both ( days 1 3 ) 08:00-10:30 )")
        for comes in (0, 1440 + 479, 1440 + 480, 1440 + 629, 1440 + 630, 5 * 1440, 10 ** 6):
            deck = Deck(read_bridge(TEXT), (1, 2), rule=rule)
            deck.ship("ida", at=comes)
            events = deck.go_to(10 ** 7)
            self.assertEqual(events[0], (first_allowed(rule, comes), "out"))
            self.assertEqual(events[1], (first_allowed(rule, comes) + 5, "through", "ida"))

    def test_boats_changed_in_the_told_order_bear_what_a_deck_lays_on_them(self):
        deck = Deck(read_bridge(TEXT), (1, 2))
        for name in ("a", "b", "c"):
            deck.cart(name, "near", 20)
        deck.go_to(4)
        bridge, load = read_bridge(TEXT), deck.load()
        self.assertIs(is_borne(bridge, load), True)
        new = [Boat("dora", 30), Boat("emma", 30), Boat("frida", 30)]
        self.assertIs(keeps(bridge, new, load, change_order(bridge, new, load)), True)

    def test_the_bridge_is_taken_up_ahead_of_the_flood(self):
        readings = [read_wire("w190@07:05"), read_wire("i3@06:00")]
        call = Gauge(lag=180).last_call(readings, 430)
        stands = Gauge(lag=180).stands(readings, Stretch(0, 1440))
        self.assertEqual([str(stretch) for stretch, stand in stands if stand == "lost"], ["10:05-00:00+1"])
        self.assertEqual(show_time(call), "08:05")

    def test_what_was_told_may_be_handed_in_however_great(self):
        events = [(k, "on", "a", "near") for k in range(5000)]
        comings = [("a", k) for k in range(5000)]
        told = waits(events, comings)
        self.assertEqual((longest(told), mean_wait(told), len(ranked(told))), (0, (0, 0), 5000))
        near, _ = books_of(events)
        self.assertEqual(len(read_book(str(near))), 5000)


class ToldIsNewTest(unittest.TestCase):
    """Promise 2: what is handed in stays, what is told is the asker's own, and lists and tuples are plain."""

    def asks(self):
        """By name: what is asked, and what is handed in."""
        rule = read_rule("08:00-10:30")
        ships = [("ida", 30, 10), ("hanna", 32, 5)]
        _, plan, paper = openings(ships, rule)
        events = [(3, "on", "a", "near"), (5, "off", "a", "far"), (6, "through", "b")]
        comings = [("b", 2), ("a", 1), ("c", 0)]
        waited = waits(events, comings)
        return {
            "first_allowed": (first_allowed, (rule, 5, 3)), "allowed_in": (allowed_in, (rule, Stretch(0, 5000))),
            "openings": (openings, (ships, rule)), "is_plan": (is_plan, (ships, plan, rule)),
            "bars_less": (bars_less, (ships, 450 + 448, paper, rule)), "waits": (waits, (events, comings)),
            "ranked": (ranked, (waited, "name", True)), "longest": (longest, (waited,)),
            "mean_wait": (mean_wait, (waited,)), "beyond": (beyond, (events, comings, 1, 90)),
            "crossings": (crossings, books_of(events)), "books_of": (books_of, (events,)),
        }

    def test_what_is_handed_in_stays_and_the_same_is_told_again(self):
        for name, (ask, handed) in self.asks().items():
            with self.subTest(name):
                before = spelled(handed)
                told = ask(*handed)
                again = spelled(told)
                self.assertEqual(spelled(handed), before)
                if isinstance(told, list):
                    told.append("changed")
                    told[0] = None
                for part in told if isinstance(told, tuple) else ():
                    if isinstance(part, list):
                        part.clear()
                    if isinstance(part, Book):
                        part.write(10 ** 9, "on", "z")
                self.assertEqual(spelled(ask(*handed)), again)

    def test_plain_kinds(self):
        for name, (ask, handed) in self.asks().items():
            with self.subTest(name):
                for thing in parts_of(ask(*handed)):
                    self.assertIn(type(thing), (int, str, bool, list, tuple, type(None), Stretch, Book))

    def test_a_bridge_and_its_deck_are_apart(self):
        boats, spans = [Boat("anna", 40)], [30, 25]
        bridge = Bridge(boats, spans)
        deck = Deck(bridge, (0, 0))
        boats.clear()
        spans[0] = 1
        bridge.boats().clear()
        bridge.spans()[0] = 1
        deck.cart("a", "near", 25)
        self.assertEqual(deck.go_to(1), [(0, "on", "a", "near")])
        self.assertEqual(str(bridge), "30 anna:40 25")


def spelled(thing):
    """A copy that shows all of the thing, whatever it is."""
    if isinstance(thing, (list, tuple)):
        return [type(thing), *[spelled(part) for part in thing]]
    return str(thing) if not isinstance(thing, (int, type(None))) else copy.copy(thing)


def parts_of(thing):
    yield thing
    for part in thing if isinstance(thing, (list, tuple)) else ():
        yield from parts_of(part)


if __name__ == "__main__":
    unittest.main()
