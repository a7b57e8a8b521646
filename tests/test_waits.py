"""Promises 26 and 27: waits, how they are ranked, and the first one beyond what was told."""

import itertools
import random
import unittest

from boatbridge.errors import NoWaits
from boatbridge.waits import beyond, longest, mean_wait, ranked, waits
from tests.anything import assert_refused


def on(minute, name, bank="near"):
    return (minute, "on", name, bank)


def off(minute, name, bank="far"):
    return (minute, "off", name, bank)


def through(minute, name):
    return (minute, "through", name)


def waits_by_hand(events, comings):
    """Promise 26: the k-th coming of a name goes with the k-th that let it by."""
    told = []
    for at, (name, comes) in enumerate(comings):
        ahead = [
            place for place, (other, minute) in enumerate(comings)
            if other == name and (minute < comes or minute == comes and place < at)
        ]
        ends = [event[0] for event in events if event[1] in ("on", "through") and event[2] == name]
        told.append((name, ends[len(ahead)] - comes if len(ahead) < len(ends) else None))
    return told


def some_events(chance, many):
    """Events of all kinds, and comings that are never behind them."""
    minutes = sorted(chance.randrange(40) for _ in range(many))
    events, comings = [], []
    for minute in minutes:
        name = chance.choice(["a", "b", "c"])
        word = chance.choice(["on", "through", "off", "turn", "out", "back", "down"])
        if word in ("on", "off"):
            events.append((minute, word, name, chance.choice(["near", "far"])))
        elif word == "through":
            events.append((minute, word, name))
        else:
            events.append((minute, word, "near") if word == "turn" else (minute, word))
        if word in ("on", "through"):
            comings.append((name, chance.choice([minute, max(0, minute - chance.randrange(9))])))
    return events, comings


class WaitsTest(unittest.TestCase):
    def test_no_comings(self):
        self.assertEqual(waits([], []), [])
        self.assertEqual(waits([on(3, "anna")], []), [])

    def test_one_wait(self):
        self.assertEqual(waits([on(7, "anna")], [("anna", 5)]), [("anna", 2)])
        self.assertEqual(waits([on(7, "anna", "far")], [("anna", 5)]), [("anna", 2)])
        self.assertEqual(waits([through(7, "anna")], [("anna", 5)]), [("anna", 2)])
        self.assertEqual(waits([through(5, "anna")], [("anna", 5)]), [("anna", 0)])
        self.assertEqual(waits([], [("anna", 5)]), [("anna", None)])
        self.assertEqual(waits([on(10 ** 9, "anna")], [("anna", 0)]), [("anna", 10 ** 9)])

    def test_other_events_end_no_wait(self):
        events = [(6, "turn", "near"), (6, "out"), off(6, "anna"), (7, "back"), (8, "down"), on(9, "berta")]
        self.assertEqual(waits(events, [("anna", 5), ("near", 0)]), [("anna", None), ("near", None)])

    def test_comings_in_any_order(self):
        events = [on(5, "a"), through(6, "b"), on(9, "c")]
        for comings in itertools.permutations([("a", 1), ("b", 2), ("c", 3), ("d", 4)]):
            told = {"a": 4, "b": 4, "c": 6, "d": None}
            self.assertEqual(waits(events, list(comings)), [(name, told[name]) for name, _ in comings])

    def test_several_of_one_name(self):
        events = [on(5, "a"), off(8, "a"), through(12, "a"), on(20, "a")]
        for comings in itertools.permutations([("a", 1), ("a", 9), ("a", 18), ("a", 30)]):
            told = {1: 4, 9: 3, 18: 2, 30: None}
            self.assertEqual(waits(events, list(comings)), [("a", told[comes]) for _, comes in comings])

    def test_like_ones_as_they_stand(self):
        self.assertEqual(
            waits([on(5, "a"), on(7, "a")], [("a", 2), ("a", 2), ("a", 2)]), [("a", 3), ("a", 5), ("a", None)])

    def test_more_events_than_comings(self):
        events = [on(5, "a"), on(7, "a"), through(9, "b"), on(9, "c")]
        self.assertEqual(waits(events, [("a", 2), ("b", 2)]), [("a", 3), ("b", 7)])

    def test_any_events(self):
        chance = random.Random(26)
        for _ in range(400):
            events, comings = some_events(chance, chance.randrange(25))
            for _ in range(chance.randrange(4)):
                comings.append((chance.choice(["a", "d"]), 41))
            chance.shuffle(comings)
            with self.subTest(events=events, comings=comings):
                self.assertEqual(waits(events, comings), waits_by_hand(events, comings))

    def test_by_names_and_what_stays(self):
        events, comings = [on(5, "a"), on(7, "a")], [("a", 3), ("a", 2)]
        told = waits(comings=comings, events=events)
        self.assertEqual(told, [("a", 4), ("a", 3)])
        self.assertEqual({type(told)} | {type(wait) for wait in told}, {list, tuple})
        self.assertEqual((events, comings), ([on(5, "a"), on(7, "a")], [("a", 3), ("a", 2)]))
        told.clear()
        self.assertEqual(waits(events, comings), [("a", 4), ("a", 3)])

    def test_a_great_many(self):
        many = 20000
        events = [on(k, "a") for k in range(many)]
        self.assertEqual(waits(events, [("a", k) for k in range(many)]), [("a", 0)] * many)


class RankedTest(unittest.TestCase):
    waited = [("dora", 3), ("anna", None), ("berta", 7), ("dora", 0), ("carla", 3), ("anna", 3), ("anna", None)]

    def test_by_long(self):
        told = [("anna", None), ("anna", None), ("berta", 7), ("dora", 3), ("carla", 3), ("anna", 3), ("dora", 0)]
        self.assertEqual(ranked(self.waited), told)
        self.assertEqual(ranked(self.waited, "long"), told)
        self.assertEqual(ranked(by="long", waited=self.waited, backward=False), told)
        self.assertEqual(ranked(self.waited, backward=True), told[::-1])
        self.assertEqual(ranked(self.waited, "long", True), told[::-1])

    def test_by_name(self):
        told = [("anna", None), ("anna", 3), ("anna", None), ("berta", 7), ("carla", 3), ("dora", 3), ("dora", 0)]
        self.assertEqual(ranked(self.waited, "name"), told)
        self.assertEqual(ranked(self.waited, by="name", backward=True), told[::-1])

    def test_by_coming(self):
        self.assertEqual(ranked(self.waited, "coming"), self.waited)
        self.assertEqual(ranked(self.waited, "coming", backward=True), self.waited[::-1])

    def test_like_ones_are_turned_about_by_backward(self):
        # The two are told apart by their names, or by their minutes.
        self.assertEqual(ranked([("a", 3), ("b", 3)]), [("a", 3), ("b", 3)])
        self.assertEqual(ranked([("a", 3), ("b", 3)], backward=True), [("b", 3), ("a", 3)])
        self.assertEqual(ranked([("b", 3), ("a", 3)]), [("b", 3), ("a", 3)])
        self.assertEqual(ranked([("a", None), ("b", None)], backward=True), [("b", None), ("a", None)])
        self.assertEqual(ranked([("a", 3), ("a", 5)], "name"), [("a", 3), ("a", 5)])
        self.assertEqual(ranked([("a", 3), ("a", 5)], "name", True), [("a", 5), ("a", 3)])

    def test_none_and_nought(self):
        self.assertEqual(ranked([("a", 0), ("b", None), ("c", 1)]), [("b", None), ("c", 1), ("a", 0)])
        for by in ("long", "name", "coming"):
            for backward in (False, True):
                self.assertEqual(ranked([], by, backward), [])

    def test_new_lists(self):
        kept = list(self.waited)
        for by in ("long", "name", "coming"):
            for backward in (False, True):
                ranked(self.waited, by, backward).clear()
                self.assertEqual(self.waited, kept)


class LongestTest(unittest.TestCase):
    def test_longest(self):
        self.assertEqual(longest([("a", 3), ("b", 7), ("c", None), ("d", 0)]), 7)
        self.assertEqual(longest(waited=[("a", 0)]), 0)
        self.assertEqual(longest([("a", 0), ("b", None)]), 0)

    def test_none_that_ends(self):
        self.assertIsNone(longest([]))
        self.assertIsNone(longest([("a", None), ("b", None)]))


class MeanTest(unittest.TestCase):
    def test_the_rest(self):
        for minutes, told in [
            ([6], (6, 0)), ([0], (0, 0)), ([1, 2], (1, 1)), ([3, 4, 4], (3, 2)), ([0, 0, 1], (0, 1)),
            ([3, None, 4, 4, None], (3, 2)), ([None, 0], (0, 0)), ([10 ** 9, 1], (500000000, 1)),
        ]:
            waited = [("a", number) for number in minutes]
            self.assertEqual(mean_wait(waited), told)
            self.assertIs(type(mean_wait(waited=waited)), tuple)

    def test_none_that_ends(self):
        for many in (0, 1, 2, 7):
            assert_refused(self, NoWaits, {"many": many}, mean_wait, [("a", None)] * many)


def beyond_by_hand(events, comings, most, until):
    """Promise 27, minute by minute."""
    waited = waits_by_hand(events, comings)
    for minute in range(until + 1):
        names = sorted(
            name for (name, long), (_, comes) in zip(waited, comings, strict=True)
            if minute == comes + most + 1 and (long is None or long > most)
        )
        if names:
            other = None
            for event in events:
                if event[1] in ("on", "through") and event[0] < minute:
                    other = event[2]
            return names[0], minute, other
    return None


class BeyondTest(unittest.TestCase):
    def test_a_wait_of_just_most_and_one_more(self):
        events = [on(7, "anna")]
        for most, told in [(0, ("anna", 6, None)), (1, ("anna", 7, None)), (2, None), (3, None)]:
            self.assertEqual(beyond(events, [("anna", 5)], most, 100), told)
        self.assertIsNone(beyond([on(5, "anna")], [("anna", 5)], 0, 100))
        self.assertEqual(beyond([on(6, "anna")], [("anna", 5)], 0, 100), ("anna", 6, None))

    def test_until_that_minute_and_one_less(self):
        for until, told in [(5, None), (7, None), (8, ("anna", 8, None)), (9, ("anna", 8, None))]:
            self.assertEqual(beyond([], [("anna", 5)], 2, until), told)
            self.assertEqual(beyond([on(9, "anna")], [("anna", 5)], 2, until), told)
        self.assertIsNone(beyond([], [("anna", 0)], 0, -1))
        self.assertIsNone(beyond([], [("anna", 0)], 0, 0))
        self.assertEqual(beyond([], [("anna", 0)], 0, 1), ("anna", 1, None))

    def test_none(self):
        self.assertIsNone(beyond([], [], 0, 10 ** 9))
        self.assertIsNone(beyond([on(3, "a")], [], 0, 10 ** 9))
        self.assertIsNone(beyond([on(3, "a"), through(9, "b")], [("a", 3), ("b", 5)], 4, 10 ** 9))

    def test_the_least_minute_then_the_least_name(self):
        for comings in itertools.permutations([("dora", 4), ("carla", 3), ("berta", 3), ("anna", 9), ("emma", 3)]):
            self.assertEqual(beyond([on(4, "emma")], list(comings), 1, 100), ("berta", 5, "emma"))

    def test_a_later_wait_may_go_beyond_where_the_first_does_not(self):
        events = [on(4, "a"), on(40, "b")]
        self.assertEqual(beyond(events, [("a", 0), ("b", 10)], 4, 100), ("b", 15, "a"))

    def test_the_other_of_that_very_minute_and_ahead_of_it(self):
        for minute, other in [(7, "berta"), (8, None), (9, None)]:
            self.assertEqual(beyond([on(minute, "berta")], [("anna", 5)], 2, 100), ("anna", 8, other))
            self.assertEqual(beyond([through(minute, "berta")], [("anna", 5)], 2, 100), ("anna", 8, other))
        events = [on(3, "berta"), through(7, "carla"), on(7, "dora"), on(8, "emma"), through(9, "frida")]
        self.assertEqual(beyond(events, [("anna", 5)], 2, 100), ("anna", 8, "dora"))
        self.assertEqual(beyond(events, [("anna", 5)], 3, 100), ("anna", 9, "emma"))

    def test_other_events_are_no_other(self):
        events = [on(3, "berta"), off(5, "berta"), (6, "turn", "far"), (6, "out"), (7, "back"), (7, "down")]
        self.assertEqual(beyond(events, [("anna", 5)], 2, 100), ("anna", 8, "berta"))

    def test_the_other_may_be_of_the_same_name(self):
        self.assertEqual(beyond([on(3, "a")], [("a", 2), ("a", 5)], 1, 100), ("a", 7, "a"))

    def test_by_names_and_what_stays(self):
        events, comings = [on(3, "b")], [("a", 2)]
        self.assertEqual(beyond(until=9, most=3, comings=comings, events=events), ("a", 6, "b"))
        self.assertEqual((events, comings), ([on(3, "b")], [("a", 2)]))

    def test_any_events(self):
        chance = random.Random(27)
        found = set()
        for _ in range(400):
            events, comings = some_events(chance, chance.randrange(25))
            for _ in range(chance.randrange(3)):
                comings.append((chance.choice(["a", "d"]), 30))
            chance.shuffle(comings)
            most, until = chance.randrange(10), chance.randrange(-1, 60)
            with self.subTest(events=events, comings=comings, most=most, until=until):
                told = beyond(events, comings, most, until)
                self.assertEqual(told, beyond_by_hand(events, comings, most, until))
                found.add(told is None)
        self.assertEqual(found, {True, False})


if __name__ == "__main__":
    unittest.main()
