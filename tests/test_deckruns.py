"""Promises 4 and 24: Decks of all kinds, held minute by minute against the document's words."""

import random
import unittest

from boatbridge.boats import Boat
from boatbridge.bridges import Bridge
from boatbridge.decks import Deck
from boatbridge.errors import Overload
from boatbridge.hours import Both, Hours, Unless
from boatbridge.stretches import Stretch
from tests.deckwords import PlainDeck, answers, is_borne
from tests.somerules import ALL, NEVER, random_rule

NAMES = ["a", "b", "c", "d", "e", "f", "g", "h", "i", "j"]
LAST = 260


class Run:
    """A bridge and its options, and what is told at which minute, by chance."""

    def __init__(self, seed):
        chance = self.chance = random.Random(seed)
        many = chance.choice([1, 1, 2, 3, 4, 10])
        low = chance.choice([5, 20, 60])
        self.boats = [chance.randint(low, 60) for _ in range(many)]
        self.spans = [chance.randint(low, 60) for _ in range(many + 1)]
        first = chance.randint(0, many)
        self.part = (first, chance.choice([first, many, chance.randint(first, many)]))
        self.options = {
            "out": chance.choice([1, 2, 5, 60]), "rest": chance.choice([0, 1, 7, 30]),
            "turn": chance.choice([1, 2, 3, 20]), "rule": self.rule(),
        }
        self.bridge = Bridge([Boat(name, bears) for name, bears in zip(NAMES, self.boats)], self.spans)
        self.told = []
        self.events = []
        self.answers = []
        self.work(chance.choice([0.05, 0.3, 1]), chance.random() < 0.5)

    def rule(self):
        chance = self.chance
        parts = tuple(Unless(Hours(first, first + chance.randint(1, 9))) for first in range(0, 250, 30))
        return chance.choice([None, None, ALL, NEVER, Hours(50, 90), Both(parts), random_rule(chance, 3)])

    def work(self, often, at_first):
        """Works the plain deck, and keeps what was told to it; all at first, or as it goes."""
        plain = PlainDeck(self.boats, self.spans, self.part, **self.options)
        taken = set()
        for minute in range(LAST):
            for _ in range(40 if at_first and minute == 0 else self.chance.choice([0, 1, 2])):
                # A Deck is told of a hundred at most.
                if len(self.told) < 95 and (minute == 0 if at_first else self.chance.random() < often):
                    self.tell(plain, taken, minute, at_first)
            self.answers.append(plain.answers())
            for event in plain.work():
                self.events.append(event)
                if event[1] in ("off", "through"):
                    taken.remove(event[2])
            self.check(plain)
        self.answers.append(plain.answers())

    def tell(self, plain, taken, minute, at_first):
        chance = self.chance
        free = [name for name in (x + y for x in NAMES for y in NAMES) if name not in taken]
        name = chance.choice(free)
        at = minute + chance.choice([0, 0, 1, 5, 100]) if not at_first else chance.randrange(LAST)
        kind = chance.choice(["cart", "cart", "cart", "cart", "ship", "rest"])
        if kind == "rest":
            handed = (Stretch(at, at + chance.choice([0, 1, 5, 40])),)
            plain.rest_hours(*handed)
            self.told.append((minute, "rest_hours", handed))
            return
        if kind == "cart":
            weight = chance.randint(1, 60)
            alone = [[weight if k == span else 0 for k in range(len(self.spans))] for span in range(len(self.spans))]
            handed = (name, chance.choice(["near", "far"]), weight, at)
            if not all(is_borne(self.boats, self.spans, load) for load in alone):
                self.told.append((minute, "overload", handed))
                return
            plain.cart(*handed)
        else:
            handed = (name, chance.choice([1, 10, 60]), at)
            plain.ship(*handed)
        taken.add(name)
        self.told.append((minute, kind, handed))

    def check(self, plain):
        """The promise itself, of the plain deck: what it says it keeps, it keeps."""
        load = plain.load_of(plain.carts)
        assert is_borne(self.boats, self.spans, load)
        if plain.last != "down":
            assert not any(load[self.part[0]:self.part[1] + 1])

    def deck(self):
        return Deck(self.bridge, self.part, **self.options)


def tell(deck, kind, handed):
    if kind == "overload":
        try:
            deck.cart(*handed)
        except Overload:
            return
        raise AssertionError("it was borne")
    asked = {"cart": deck.cart, "ship": deck.ship, "rest": deck.rest_hours, "rest_hours": deck.rest_hours}[kind]
    asked(*handed)


class RunsTest(unittest.TestCase):
    @classmethod
    def setUpClass(cls):
        cls.runs = [Run(seed) for seed in range(150)]

    def test_minute_by_minute(self):
        for seed, run in enumerate(self.runs):
            with self.subTest(seed=seed):
                deck, events = run.deck(), []
                for minute in range(LAST):
                    for at, kind, handed in run.told:
                        if at == minute:
                            tell(deck, kind, handed)
                    self.assertEqual(answers(deck), run.answers[minute])
                    events.extend(deck.go_to(minute + 1))
                self.assertEqual(events, run.events)
                self.assertEqual(answers(deck), run.answers[LAST])

    def test_by_leaps(self):
        for seed, run in enumerate(self.runs):
            chance = random.Random(-seed)
            with self.subTest(seed=seed):
                deck, events = run.deck(), []
                stops = {at for at, _, _ in run.told}
                stops.update(chance.randrange(LAST) for _ in range(chance.choice([0, 5, 50])))
                for minute in sorted(stops):
                    events.extend(deck.go_to(minute))
                    self.assertEqual(answers(deck), run.answers[minute])
                    for at, kind, handed in run.told:
                        if at == minute:
                            tell(deck, kind, handed)
                events.extend(deck.go_to(LAST))
                self.assertEqual(events, run.events)
                self.assertEqual(answers(deck), run.answers[LAST])

    def test_by_one_great_leap(self):
        many = 0
        for seed, run in enumerate(self.runs):
            if all(at == 0 for at, _, _ in run.told):
                many += 1
                with self.subTest(seed=seed):
                    deck = run.deck()
                    for _, kind, handed in run.told:
                        tell(deck, kind, handed)
                    self.assertEqual(deck.go_to(LAST), run.events)
                    self.assertEqual(answers(deck), run.answers[LAST])
        self.assertGreater(many, 40)

    def test_the_runs_have_all_in_them(self):
        words = {}
        for run in self.runs:
            for event in run.events:
                words[event[1]] = words.get(event[1], 0) + 1
        for word in ("on", "off", "turn", "out", "through", "back", "down"):
            self.assertGreater(words[word], 60)
        self.assertGreater(sum(kind == "overload" for run in self.runs for _, kind, _ in run.told), 50)
        modes = {told["mode"] for run in self.runs for told in run.answers}
        self.assertEqual(modes, {"down", "out", "open", "back"})

    def test_the_promise_minute_by_minute(self):
        """Of the Deck's own answers: no cart on a part that swings, and no more than what is borne."""
        for seed, run in enumerate(self.runs):
            first, last = run.part
            deck = run.deck()
            for minute in range(LAST):
                for at, kind, handed in run.told:
                    if at == minute:
                        tell(deck, kind, handed)
                deck.go_to(minute + 1)
                with self.subTest(seed=seed, minute=minute):
                    self.assertTrue(is_borne(run.boats, run.spans, deck.load()))
                    if deck.mode() != "down":
                        self.assertFalse([span for span in deck.on_deck().values() if first <= span <= last])


class FarRunsTest(unittest.TestCase):
    def test_weeks_on_by_one_leap_and_by_leaps_of_all_kinds(self):
        chance = random.Random(25)
        for _ in range(30):
            rule = random_rule(chance, 4)
            options = {"rest": chance.choice([0, 1000]), "out": chance.choice([1, 60]), "rule": rule}
            decks = [Deck(Bridge([Boat("a", 40)], [30, 40]), (1, 1), **options) for _ in range(2)]
            for k in range(12):
                at = chance.randrange(20000)
                for deck in decks:
                    deck.cart("c" + NAMES[k % 10] * (1 + k // 10), ("near", "far")[at % 2], 1 + at % 30, at)
                    deck.ship("s" + NAMES[k % 10] * (1 + k // 10), 1 + at % 60, at // 2)
                    deck.rest_hours(Stretch(at, at + at % 1500))
            one, many = decks
            events = one.go_to(60000)
            found = []
            minute = 0
            while minute < 60000:
                minute = min(60000, minute + chance.choice([0, 1, 2, 10, 500, 1440, 9000]))
                found.extend(many.go_to(minute))
            with self.subTest(rule=str(rule)):
                self.assertEqual(found, events)
                self.assertEqual(answers(one), answers(many))


if __name__ == "__main__":
    unittest.main()
