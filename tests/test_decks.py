"""Promises 23 to 25: a Deck, worked minute by minute by hand; what is refused, and what is told."""

import itertools
import unittest

from boatbridge.bridges import read_bridge
from boatbridge.decks import Deck
from boatbridge.errors import Late, NoThing, Overload, Taken
from boatbridge.hours import Both, Hours, Rule, Unless
from boatbridge.stretches import Stretch
from tests.anything import assert_refused, things, within_one_another
from tests.deckwords import answers
from tests.somerules import ALL, DAY, MORNING, NEVER, TUESDAYS, WEEK

MOST = 10 ** 9
FOUR_SPANS = read_bridge("100 anna:100 100 berta:100 100 carla:100 100")
WEAK = read_bridge("30 anna:20 25 berta:15 40")

# By option: the least and the most that it may be.
OPTIONS = {"out": (1, 60), "rest": (0, 1000), "turn": (1, 20)}


def deck(bridge=FOUR_SPANS, part=(1, 2), **options):
    return Deck(bridge, part, **options)


class MadeTest(unittest.TestCase):
    """Promise 23: what a Deck is made of."""

    def test_the_bounds_of_each_option(self):
        for option, (least, most) in OPTIONS.items():
            for number in (least, most):
                self.assertEqual(deck(**{option: number}).now(), 0)
            for thing in (least - 1, most + 1):
                assert_refused(self, NoThing, {"thing": thing}, deck, **{option: thing})

    def test_options_of_any_kind(self):
        for option, (least, most) in OPTIONS.items():
            for thing in [*things(), Stretch(1), WEAK]:
                if type(thing) is not int or not least <= thing <= most:
                    assert_refused(self, NoThing, {"thing": thing}, deck, **{option: thing})

    def test_rules(self):
        for rule in (None, MORNING, ALL, NEVER, Rule(), Both((MORNING, Unless(TUESDAYS)))):
            self.assertEqual(deck(rule=rule).mode(), "down")
        for thing in [*things(), "08:00-10:30", Stretch(480, 630), FOUR_SPANS]:
            if thing is not None:
                assert_refused(self, NoThing, {"thing": thing}, deck, rule=thing)

    def test_bridges(self):
        for thing in [*things(), "30 anna:20 25", [FOUR_SPANS], Stretch(1)]:
            assert_refused(self, NoThing, {"thing": thing}, Deck, thing, (0, 0))

    def test_parts(self):
        for first, last in itertools.product(range(-1, 5), repeat=2):
            if 0 <= first <= last <= 3:
                self.assertEqual(deck(part=(first, last)).on_deck(), {})
            else:
                assert_refused(self, NoThing, {"thing": (first, last)}, deck, part=(first, last))
        wrong = [
            (0,), (0, 1, 2), [0, 1], (True, 1), (0, True), (False, False), (None, 1), (0, None), ("0", "1"), "01",
            ((0, 1),), {0: 0, 1: 1}, (0, Stretch(0)), 0,
        ]
        for thing in wrong + [thing for thing in things() if thing != (0, 1)]:
            assert_refused(self, NoThing, {"thing": thing}, deck, part=thing)

    def test_the_first_of_several_in_the_order_of_the_interface(self):
        right = {"bridge": FOUR_SPANS, "part": (0, 3), "out": 5, "rest": 30, "turn": 3, "rule": None}
        wrong = {"bridge": "bridge", "part": (3, 4), "out": 0, "rest": -1, "turn": 21, "rule": "rule"}
        names = list(right)
        for some in itertools.product((False, True), repeat=6):
            handed = {name: (wrong if bad else right)[name] for name, bad in zip(names, some, strict=True)}
            first = next((name for name, bad in zip(names, some, strict=True) if bad), None)
            for turned in (handed, dict(reversed(handed.items()))):
                if first is None:
                    self.assertEqual(Deck(**turned).now(), 0)
                else:
                    assert_refused(self, NoThing, {"thing": wrong[first]}, Deck, **turned)

    def test_options_left_out(self):
        left, told = Deck(FOUR_SPANS, (1, 2)), Deck(FOUR_SPANS, (1, 2), 5, 30, 3, None)
        for one in (left, told):
            for k, name in enumerate(("a", "b", "c", "d", "e")):
                one.cart(name, "near", 10)
                one.cart(name * 2, "far", 10)
                one.ship(name * 3, at=7 * k)
            one.ship("last", at=80)
        events = left.go_to(500)
        self.assertEqual(events, told.go_to(500))
        # 5 minutes out, 10 for the ship, 5 back, 30 at rest; 3 carts in a turn.
        self.assertEqual([event for event in events if event[1] in ("out", "through")][:6], [
            (0, "out"), (5, "through", "aaa"), (15, "through", "bbb"), (25, "through", "ccc"), (35, "through", "ddd"),
            (45, "through", "eee"),
        ])
        self.assertIn((60, "down"), events)
        self.assertIn((90, "out"), events)
        self.assertEqual([event[1:] for event in events if event[1] in ("on", "turn")][:5], [
            ("on", "a", "near"), ("on", "b", "near"), ("on", "c", "near"), ("turn", "far"), ("on", "aa", "far"),
        ])


class RefusedTest(unittest.TestCase):
    """Promise 23: what of carts and ships is refused, and in which order."""

    def assert_nothing_changed(self, deck, ask, *handed, **named):
        before = answers(deck)
        with self.assertRaises((NoThing, Taken, Overload, Late)) as caught:
            ask(*handed, **named)
        self.assertEqual(answers(deck), before)
        return caught.exception

    def test_names_of_any_kind(self):
        one = deck()
        for thing in [*things(), "Anna", "anna ", "abcdefghi", "anna1", ["anna"], ("anna",), Stretch(3)]:
            if thing not in ("a", "anna", "near"):
                assert_refused(self, NoThing, {"thing": thing}, one.cart, thing, "near", 10)
                assert_refused(self, NoThing, {"thing": thing}, one.ship, thing)
        self.assertEqual(one.go_to(100), [])

    def test_banks_of_any_kind(self):
        one = deck()
        for thing in [*things(), "Near", "near ", "nea", "banks", ["near"], ("near",), {"near": "far"}, b"near"]:
            if thing != "near":
                assert_refused(self, NoThing, {"thing": thing}, one.cart, "anna", thing, 10)
        self.assertEqual(one.go_to(100), [])

    def test_weights_and_longs_of_any_kind_and_out_of_their_bounds(self):
        heavy = deck(read_bridge("1000000 a:1000000 1000000"), (0, 0))
        for thing in [*things(), 10 ** 6 + 1, 0, -1, True, "10", Stretch(1)]:
            if type(thing) is not int or not 1 <= thing <= 10 ** 6:
                assert_refused(self, NoThing, {"thing": thing}, heavy.cart, "anna", "near", thing)
            if type(thing) is not int or not 1 <= thing <= 60:
                assert_refused(self, NoThing, {"thing": thing}, heavy.ship, "anna", thing)
        self.assertEqual(heavy.go_to(100), [])
        heavy.cart("anna", "near", 10 ** 6)
        heavy.cart("berta", "far", 1)
        heavy.ship("carla", 1)
        heavy.ship("dora", 60)
        self.assertEqual(len(heavy.go_to(300)), 10)

    def test_minutes_of_any_kind(self):
        one = deck()
        for thing in [*things(), -1, True, False, "0", "00:00", 0.0, Stretch(1)]:
            if thing is not None and (type(thing) is not int or thing < 0):
                assert_refused(self, NoThing, {"thing": thing}, one.cart, "anna", "near", 10, thing)
                assert_refused(self, NoThing, {"thing": thing}, one.ship, "anna", 10, thing)
        self.assertEqual(one.go_to(100), [])

    def test_hours_of_rest_of_any_kind(self):
        one = deck()
        for thing in [*things(), (0, 10), [Stretch(0, 10)], MORNING]:
            assert_refused(self, NoThing, {"thing": thing}, one.rest_hours, thing)
        one.cart("anna", "near", 10)
        self.assertEqual(one.go_to(1), [(0, "on", "anna", "near")])

    def test_the_first_of_several_in_the_order_of_the_interface(self):
        right = {"name": "dora", "bank": "far", "weight": 10, "long": 10, "at": 50}
        wrong = {"name": "Dora", "bank": "over", "weight": 0, "long": 61, "at": -1}
        for ask, names in [("cart", ("name", "bank", "weight", "at")), ("ship", ("name", "long", "at"))]:
            for some in itertools.product((False, True), repeat=len(names)):
                one = deck()
                handed = {name: (wrong if bad else right)[name] for name, bad in zip(names, some, strict=True)}
                first = next((name for name, bad in zip(names, some, strict=True) if bad), None)
                if first is None:
                    self.assertIsNone(getattr(one, ask)(**handed))
                else:
                    for turned in (handed, dict(reversed(handed.items()))):
                        assert_refused(self, NoThing, {"thing": wrong[first]}, getattr(one, ask), **turned)
                    assert_refused(self, NoThing, {"thing": wrong[first]}, getattr(one, ask), *handed.values())

    def test_taken_while_it_is_on_the_way(self):
        one = deck(out=2, rest=0)
        one.cart("anna", "near", 10, at=3)
        one.ship("berta", 4, at=30)
        for minute in range(0, 3 + 5):
            # From its telling on, in the line and on the deck, until the minute of "off" is worked.
            if minute > 0:
                one.go_to(minute)
            for ask, handed in [(one.cart, ("anna", "far", 1)), (one.ship, ("anna",)), (one.ship, ("berta", 3, 40)),
                                (one.cart, ("berta", "near", 1))]:
                self.assert_nothing_changed(one, ask, *handed)
                assert_refused(self, Taken, {"name": handed[0]}, ask, *handed)
        self.assertEqual(one.go_to(8), [(7, "off", "anna", "far")])
        self.assertIsNone(one.ship("anna", 5, 31))
        assert_refused(self, Taken, {"name": "anna"}, one.cart, "anna", "near", 1)
        one.go_to(32)
        assert_refused(self, Taken, {"name": "berta"}, one.ship, "berta")
        # Through frees the name, though the ship is in the opening still.
        self.assertEqual(one.go_to(33), [(32, "through", "berta")])
        self.assertIsNone(one.cart("berta", "far", 10, 90))
        assert_refused(self, Taken, {"name": "anna"}, one.cart, "anna", "near", 1)
        self.assertEqual(one.go_to(37), [(36, "through", "anna")])
        self.assertIsNone(one.cart("anna", "near", 10))

    def test_a_refused_one_takes_no_name(self):
        one = deck(WEAK, (0, 0))
        one.go_to(10)
        assert_refused(self, Overload, {"part": "span", "at": 1, "over": 1}, one.cart, "anna", "near", 26)
        assert_refused(self, Late, {"minute": 10}, one.cart, "anna", "near", 25, 9)
        assert_refused(self, Late, {"minute": 10}, one.ship, "anna", 25, 9)
        assert_refused(self, NoThing, {"thing": 0}, one.cart, "anna", "near", 0)
        self.assertEqual(one.go_to(50), [])
        self.assertIsNone(one.cart("anna", "near", 25))

    def test_overload_of_the_first_span_from_the_near_bank(self):
        # Boats bear twice what they bear in halves, so that alone the spans next to them count twice.
        for text, weight, fields in [
            ("30 anna:20 25 berta:15 40", 26, ("span", 1, 1)),
            ("30 anna:20 25 berta:15 40", 31, ("span", 0, 1)),
            ("30 anna:20 25 berta:15 40", 41, ("span", 0, 11)),
            ("50 anna:20 50 berta:15 50", 31, ("boat", 1, 1)),
            ("50 anna:20 50 berta:15 50", 41, ("boat", 0, 1)),
            ("50 anna:20 50 berta:15 45", 50, ("boat", 0, 10)),
            ("50 anna:50 40 berta:15 50", 45, ("span", 1, 5)),
            ("50 anna:50 50 berta:50 40", 41, ("span", 2, 1)),
            ("50 anna:50 50 berta:20 40", 41, ("boat", 1, 1)),
        ]:
            for bank in ("near", "far"):
                with self.subTest(text, weight=weight, bank=bank):
                    one = Deck(read_bridge(text), (0, 0))
                    part, at, over = fields
                    assert_refused(
                        self, Overload, {"part": part, "at": at, "over": over}, one.cart, "dora", bank, weight)
                    self.assertEqual(one.go_to(9), [])

    def test_borne_just_so(self):
        for text, most in [("30 anna:20 25 berta:15 40", 25), ("50 anna:20 50 berta:15 50", 30), ("9 a:4 9", 8)]:
            for bank in ("near", "far"):
                one = Deck(read_bridge(text), (0, 0))
                with self.assertRaises(Overload):
                    one.cart("dora", bank, most + 1)
                self.assertIsNone(one.cart("dora", bank, most))

    def test_at_is_now_one_less_none_and_left_out(self):
        for now in (0, 1, 500, MOST - 1):
            one = deck()
            one.go_to(now)
            one.cart("a", "near", 1, at=now)
            one.cart("b", "near", 1, at=None)
            one.cart("c", "near", 1)
            one.ship("d", at=now)
            one.ship("e", 10, None)
            one.ship("f")
            one.cart("g", "near", 1, now + 1)
            if now > 0:
                assert_refused(self, Late, {"minute": now}, one.cart, "h", "near", 1, now - 1)
                assert_refused(self, Late, {"minute": now}, one.ship, "h", 1, now - 1)
                assert_refused(self, Late, {"minute": now}, one.ship, "h", 1, 0)
            self.assertEqual((one.line("near"), one.ships()), ([], []))
            one.go_to(now + 1)
            self.assertEqual(one.line("near"), ["a", "b", "c"])
            self.assertEqual(one.ships(), ["d", "e", "f"])

    def test_the_order_of_refusals(self):
        one = deck(WEAK, (0, 0))
        one.cart("anna", "near", 10)
        one.go_to(1)
        assert_refused(self, NoThing, {"thing": -1}, one.cart, "anna", "far", 99, -1)
        assert_refused(self, NoThing, {"thing": 0}, one.ship, "anna", 0, 0)
        assert_refused(self, Taken, {"name": "anna"}, one.cart, "anna", "far", 99, 0)
        assert_refused(self, Taken, {"name": "anna"}, one.ship, "anna", 9, 0)
        assert_refused(self, Overload, {"part": "span", "at": 0, "over": 69}, one.cart, "berta", "far", 99, 0)
        assert_refused(self, Late, {"minute": 1}, one.cart, "berta", "far", 9, 0)
        assert_refused(self, Late, {"minute": 1}, one.ship, "berta", 9, 0)
        self.assertEqual(one.go_to(100), [(3, "off", "anna", "far")])

    def test_going_on_backward(self):
        one = deck()
        one.cart("anna", "near", 10)
        one.go_to(3)
        before = answers(one)
        for minute in (2, 0):
            assert_refused(self, Late, {"minute": 3}, one.go_to, minute)
        self.assertEqual(answers(one), before)
        self.assertEqual(one.go_to(3), [])
        self.assertEqual(answers(one), before)
        self.assertEqual(one.go_to(minute=100), [(4, "off", "anna", "far")])

    def test_things_within_one_another(self):
        one = deck()
        thing = within_one_another("anna")
        refusal = assert_refused(self, NoThing, {"thing": thing}, one.cart, thing, thing, thing, thing)
        self.assertIs(refusal.thing, thing)


class CartsTest(unittest.TestCase):
    """Promise 24: carts, line by line."""

    def test_one_cart_from_either_bank(self):
        one = deck()
        one.cart("anna", "near", 10)
        self.assertEqual(one.go_to(1), [(0, "on", "anna", "near")])
        for minute, span in [(1, 0), (2, 1), (3, 2), (4, 3)]:
            self.assertEqual(one.go_to(minute), [])
            self.assertEqual((one.now(), one.on_deck()), (minute, {"anna": span}))
            self.assertEqual(one.load(), [10 if k == span else 0 for k in range(4)])
        self.assertEqual(one.go_to(5), [(4, "off", "anna", "far")])
        self.assertEqual((one.on_deck(), one.load()), ({}, [0, 0, 0, 0]))
        other = deck()
        other.cart("anna", "far", 10)
        self.assertEqual(other.go_to(1), [(0, "turn", "far"), (0, "on", "anna", "far")])
        for minute, span in [(1, 3), (2, 2), (3, 1), (4, 0)]:
            other.go_to(minute)
            self.assertEqual(other.on_deck(), {"anna": span})
        self.assertEqual(other.go_to(5), [(4, "off", "anna", "near")])

    def test_carts_that_come_and_go_on_in_one_minute(self):
        one = deck()
        one.go_to(7)
        one.cart("anna", "near", 10)
        one.cart("berta", "near", 10, 8)
        one.cart("carla", "near", 10, 8)
        self.assertEqual(one.go_to(10), [
            (7, "on", "anna", "near"), (8, "on", "berta", "near"), (9, "on", "carla", "near"),
        ])

    def test_lines_in_the_order_of_telling(self):
        one = deck()
        for name, at in [("c", 2), ("a", 1), ("d", 2), ("b", 2), ("e", 0)]:
            one.cart(name, "near", 90, at)
        self.assertEqual([event[2] for event in one.go_to(100) if event[1] == "on"], ["e", "a", "c", "d", "b"])

    def test_turn_1_by_turns(self):
        one = deck(turn=1)
        for name in ("a", "b"):
            one.cart(name, "near", 10)
            one.cart(name * 2, "far", 10)
        self.assertEqual(one.go_to(100), [
            (0, "on", "a", "near"), (4, "off", "a", "far"), (4, "turn", "far"), (4, "on", "aa", "far"),
            (8, "off", "aa", "near"), (8, "turn", "near"), (8, "on", "b", "near"), (12, "off", "b", "far"),
            (12, "turn", "far"), (12, "on", "bb", "far"), (16, "off", "bb", "near"),
        ])

    def test_turn_2_and_the_other_line_filled_later(self):
        one = deck(turn=2)
        for name in ("a", "b", "c", "d"):
            one.cart(name, "near", 10)
        one.cart("e", "far", 10, at=3)
        # While the far line is empty the near one goes on; at 3 the turn's many are gone on already.
        self.assertEqual(one.go_to(100), [
            (0, "on", "a", "near"), (1, "on", "b", "near"), (2, "on", "c", "near"), (4, "off", "a", "far"),
            (5, "off", "b", "far"), (6, "off", "c", "far"), (6, "turn", "far"), (6, "on", "e", "far"),
            (10, "off", "e", "near"), (10, "turn", "near"), (10, "on", "d", "near"), (14, "off", "d", "far"),
        ])

    def test_turn_20(self):
        one = deck(turn=20)
        for k in range(22):
            one.cart("n" + chr(97 + k), "near", 10)
        one.cart("far", "far", 10)
        events = one.go_to(100)
        ons = [event[2] for event in events if event[1] == "on"]
        self.assertEqual(ons.index("far"), 20)
        self.assertIn((23, "turn", "far"), events)
        self.assertIn((27, "turn", "near"), events)

    def test_the_turn_stays_where_both_lines_are_empty_and_counts_on(self):
        one = deck(turn=2)
        one.cart("a", "far", 10)
        one.go_to(50)
        self.assertEqual(one.turn(), "far")
        one.cart("b", "far", 10)
        one.go_to(100)
        one.cart("c", "far", 10)
        one.cart("d", "near", 10)
        self.assertEqual(one.go_to(101), [(100, "turn", "near"), (100, "on", "d", "near")])

    def test_the_turn_does_not_go_over_while_a_cart_is_on_the_deck(self):
        one = deck()
        one.cart("a", "near", 10)
        one.cart("b", "far", 10, at=1)
        one.cart("c", "near", 10, at=2)
        self.assertEqual(one.go_to(100), [
            (0, "on", "a", "near"), (2, "on", "c", "near"), (4, "off", "a", "far"), (6, "off", "c", "far"),
            (6, "turn", "far"), (6, "on", "b", "far"), (10, "off", "b", "near"),
        ])

    def test_weights_that_are_borne_only_apart(self):
        # Boats bear 30 in halves 60: two carts of 20 one behind the other are 40 in halves at each boat.
        bridge = read_bridge("30 a:15 30 b:15 30 c:15 30")
        one = deck(bridge)
        for name in ("x", "y", "z"):
            one.cart(name, "near", 20)
        self.assertEqual([event[:3] for event in one.go_to(100) if event[1] == "on"], [
            (0, "on", "x"), (2, "on", "y"), (4, "on", "z"),
        ])
        other = deck(bridge)
        for name in ("x", "y", "z"):
            other.cart(name, "near", 15)
        self.assertEqual([event[0] for event in other.go_to(100) if event[1] == "on"], [0, 1, 2])

    def test_borne_now_but_not_in_a_later_minute(self):
        # The third span's boats bear less, where two of 20 would be side by side three minutes on.
        bridge = read_bridge("90 a:90 90 b:90 90 c:19 90")
        one = deck(bridge)
        for name in ("x", "y"):
            one.cart(name, "near", 20)
        self.assertEqual([event[0] for event in one.go_to(100) if event[1] == "on"], [0, 2])
        other = deck(bridge)
        for name in ("x", "y"):
            other.cart(name, "far", 20)
        self.assertEqual([event[0] for event in other.go_to(100) if event[1] == "on"], [0, 2])
        light = deck(bridge)
        light.cart("x", "near", 20)
        light.cart("y", "near", 18)
        self.assertEqual([event[0] for event in light.go_to(100) if event[1] == "on"], [0, 1])

    def test_a_light_one_behind_a_heavy_one_waits_its_turn(self):
        one = deck(read_bridge("30 a:15 30 b:15 30 c:15 30"))
        one.cart("x", "near", 30)
        one.cart("y", "near", 30)
        one.cart("z", "near", 1)
        ons = [(event[0], event[2]) for event in one.go_to(100) if event[1] == "on"]
        self.assertEqual(ons, [(0, "x"), (2, "y"), (4, "z")])

    def test_hours_of_rest_at_their_ends(self):
        for first, behind, on in [(0, 5, 5), (0, 1, 1), (1, 5, 0), (0, 0, 0), (3, 3, 0)]:
            one = deck()
            one.rest_hours(Stretch(first, behind))
            one.cart("anna", "far", 10)
            self.assertEqual(one.go_to(on + 1), [(on, "turn", "far"), (on, "on", "anna", "far")])

    def test_several_hours_of_rest(self):
        one = deck()
        for first, behind in [(4, 9), (9, 11), (0, 2), (2, 4), (5, 6), (20, 30), (12, 12)]:
            self.assertIsNone(one.rest_hours(stretch=Stretch(first, behind)))
        one.cart("anna", "near", 10)
        one.cart("berta", "near", 10, at=20)
        self.assertEqual(one.go_to(100), [
            (11, "on", "anna", "near"), (15, "off", "anna", "far"),
            (30, "on", "berta", "near"), (34, "off", "berta", "far"),
        ])

    def test_hours_of_rest_that_are_over_or_come_while_carts_are_on(self):
        one = deck()
        one.cart("anna", "near", 10)
        one.cart("berta", "near", 10)
        one.go_to(1)
        one.rest_hours(Stretch(0, 1))
        one.rest_hours(Stretch(1, 3))
        one.rest_hours(Stretch(1, 1))
        # Those on the deck go on all the same.
        self.assertEqual(one.go_to(4), [(3, "on", "berta", "near")])
        self.assertEqual(one.on_deck(), {"anna": 3, "berta": 0})
        one.rest_hours(Stretch(0, MOST))
        self.assertEqual(one.go_to(50), [(4, "off", "anna", "far"), (7, "off", "berta", "far")])

    def test_no_turn_goes_over_in_hours_of_rest(self):
        one = deck()
        one.rest_hours(Stretch(0, 10))
        one.cart("anna", "far", 10)
        self.assertEqual(one.go_to(10), [])
        self.assertEqual(one.turn(), "near")
        self.assertEqual(one.go_to(11), [(10, "turn", "far"), (10, "on", "anna", "far")])


class ShipsTest(unittest.TestCase):
    """Promise 24: the part and the ships, line by line."""

    def test_one_ship(self):
        one = deck(out=3)
        one.ship("hanna", 7)
        modes = []
        events = []
        for minute in range(1, 15):
            events += one.go_to(minute)
            modes.append(one.mode())
        self.assertEqual(events, [(0, "out"), (3, "through", "hanna"), (10, "back"), (13, "down")])
        self.assertEqual(modes, ["out"] * 3 + ["open"] * 7 + ["back"] * 3 + ["down"])

    def test_out_1_and_60(self):
        for out in (1, 60):
            for long in (1, 60):
                one = deck(out=out)
                one.ship("hanna", long, at=9)
                self.assertEqual(one.go_to(1000), [
                    (9, "out"), (9 + out, "through", "hanna"), (9 + out + long, "back"), (9 + 2 * out + long, "down"),
                ])

    def test_two_ships_behind_one_another(self):
        one = deck()
        one.ship("ida", 4)
        one.ship("hanna", 7)
        self.assertEqual(one.go_to(100), [
            (0, "out"), (5, "through", "ida"), (9, "through", "hanna"), (16, "back"), (21, "down"),
        ])

    def test_ships_that_come_while_it_swings_out_is_open_and_swings_back(self):
        one = deck(rest=4)
        one.ship("a", 4)
        for name, at in [("b", 3), ("c", 9), ("d", 13), ("e", 18), ("f", 24)]:
            one.ship(name, 4, at)
        # d comes just where c ends, e while it swings back, f while it rests.
        self.assertEqual(one.go_to(100), [
            (0, "out"), (5, "through", "a"), (9, "through", "b"), (13, "through", "c"), (17, "through", "d"),
            (21, "through", "e"), (25, "through", "f"), (29, "back"), (34, "down"),
        ])
        other = deck(rest=4)
        other.ship("a", 4)
        other.ship("b", 4, 10)
        other.ship("c", 4, 13)
        self.assertEqual(other.go_to(100), [
            (0, "out"), (5, "through", "a"), (9, "back"), (14, "down"), (18, "out"), (23, "through", "b"),
            (27, "through", "c"), (31, "back"), (36, "down"),
        ])

    def test_a_ship_that_comes_in_the_minute_of_swinging_back(self):
        for at, told in [(8, [(9, "through", "b"), (13, "back")]), (9, [(9, "through", "b"), (13, "back")]),
                         (10, [(9, "back"), (14, "down")])]:
            one = deck()
            one.ship("a", 4)
            one.ship("b", 4, at)
            self.assertEqual(one.go_to(18)[2:], told)

    def test_rest_0_and_1000(self):
        for rest in (0, 1, 30, 1000):
            one = deck(rest=rest)
            one.ship("a", 4)
            one.ship("b", 4, at=10)
            self.assertEqual(one.go_to(3000), [
                (0, "out"), (5, "through", "a"), (9, "back"), (14, "down"),
                (14 + rest, "out"), (19 + rest, "through", "b"), (23 + rest, "back"), (28 + rest, "down"),
            ])

    def test_at_first_it_needs_no_rest(self):
        one = deck(rest=1000)
        one.ship("a", 4)
        self.assertEqual(one.go_to(1), [(0, "out")])

    def test_a_rule(self):
        one = deck(rule=MORNING)
        one.ship("a", 4)
        self.assertEqual(one.go_to(480), [])
        self.assertEqual(one.ships(), ["a"])
        self.assertEqual(one.go_to(481), [(480, "out")])
        for at, called in [(629, 629), (630, DAY + 480), (600, 600)]:
            one = deck(rule=MORNING)
            one.ship("a", 60, at)
            # Once it is out, the rule is not asked again.
            self.assertEqual(one.go_to(2 * DAY), [
                (called, "out"), (called + 5, "through", "a"), (called + 65, "back"), (called + 70, "down"),
            ])

    def test_a_rule_that_allows_one_minute(self):
        one = deck(rule=Hours(7, 8))
        one.ship("a", 4)
        self.assertEqual(one.go_to(DAY)[0], (7, "out"))
        one.ship("b", 4, DAY + 7)
        one.ship("c", 4, 2 * DAY + 8)
        events = one.go_to(MOST)
        self.assertEqual([event[0] for event in events if event[1] == "out"], [DAY + 7, 3 * DAY + 7])

    def test_a_rule_that_never_allows(self):
        one = deck(rule=NEVER)
        one.ship("a", 4)
        one.cart("b", "near", 10)
        self.assertEqual(one.go_to(MOST), [(0, "on", "b", "near"), (4, "off", "b", "far")])
        self.assertEqual((one.mode(), one.ships()), ("down", ["a"]))


class TogetherTest(unittest.TestCase):
    """Promise 24: carts and ships in one another's way."""

    def test_a_called_part_waits_for_carts_on_it_or_ahead_of_it(self):
        # By the part: at which minute it is swung out where a cart went on at 0 and a ship comes at 1.
        for part, near, far in [
            ((0, 0), 1, 4), ((1, 1), 2, 3), ((2, 2), 3, 2), ((3, 3), 4, 1), ((0, 3), 4, 4), ((1, 2), 3, 3),
            ((0, 1), 2, 4), ((2, 3), 4, 2),
        ]:
            for bank, minute in (("near", near), ("far", far)):
                with self.subTest(part=part, bank=bank):
                    one = deck(part=part)
                    one.cart("anna", bank, 10)
                    one.ship("hanna", at=1)
                    self.assertIn((minute, "out"), one.go_to(20))

    def test_carts_beyond_the_part_go_on_while_it_swings(self):
        one = deck(part=(0, 0))
        one.cart("anna", "near", 10)
        one.ship("hanna", at=1)
        self.assertEqual(one.go_to(5), [(0, "on", "anna", "near"), (1, "out"), (4, "off", "anna", "far")])

    def test_no_cart_goes_on_while_it_is_called_or_not_down(self):
        one = deck(rest=3)
        one.ship("hanna", 5)
        one.cart("anna", "near", 10)
        one.cart("berta", "far", 10)
        self.assertEqual(one.go_to(50), [
            (0, "out"), (5, "through", "hanna"), (10, "back"), (15, "down"), (15, "on", "anna", "near"),
            (19, "off", "anna", "far"), (19, "turn", "far"), (19, "on", "berta", "far"), (23, "off", "berta", "near"),
        ])

    def test_carts_go_on_while_it_rests(self):
        one = deck(rest=6)
        one.ship("hanna", 5)
        one.ship("ida", 5, at=12)
        for name in ("a", "b", "c", "d", "e", "f", "g"):
            one.cart(name, "near", 10)
        events = one.go_to(60)
        self.assertEqual([event[0] for event in events if event[1] == "on"], [15, 16, 17, 18, 19, 20, 38])
        # The one that went on at 20 is off the part, spans 1 and 2, at 23.
        self.assertIn((23, "out"), events)

    def test_rest_0_lets_no_cart_on_between(self):
        one = deck(rest=0)
        one.ship("hanna", 5)
        one.ship("ida", 5, at=12)
        one.cart("anna", "near", 10)
        self.assertEqual(one.go_to(60), [
            (0, "out"), (5, "through", "hanna"), (10, "back"), (15, "down"), (15, "out"), (20, "through", "ida"),
            (25, "back"), (30, "down"), (30, "on", "anna", "near"), (34, "off", "anna", "far"),
        ])

    def test_a_rule_that_stops_calling(self):
        # It is called at 1 and 2 alone; the cart is on the part until 2, and so it is never swung out.
        one = deck(rule=Hours(1, 3), part=(1, 2))
        one.cart("anna", "near", 10)
        one.cart("berta", "near", 10, at=1)
        one.ship("hanna", at=1)
        self.assertEqual(one.go_to(100), [
            (0, "on", "anna", "near"), (3, "on", "berta", "near"),
            (4, "off", "anna", "far"), (7, "off", "berta", "far"),
        ])
        self.assertEqual(one.ships(), ["hanna"])
        self.assertEqual(one.go_to(DAY + 50)[0], (DAY + 1, "out"))

    def test_ships_are_let_by_in_hours_of_rest(self):
        one = deck()
        one.rest_hours(Stretch(0, 100))
        one.cart("anna", "near", 10)
        one.ship("hanna", 5)
        self.assertEqual(one.go_to(101), [
            (0, "out"), (5, "through", "hanna"), (10, "back"), (15, "down"), (100, "on", "anna", "near"),
        ])

    def test_the_order_in_one_minute(self):
        one = deck(out=1, rest=0, turn=1, rule=Hours(4, 5), part=(3, 3))
        one.cart("anna", "near", 10)
        one.cart("berta", "far", 10)
        one.ship("hanna", 1)
        self.assertEqual(one.go_to(8), [
            (0, "on", "anna", "near"), (4, "off", "anna", "far"), (4, "out"), (5, "through", "hanna"), (6, "back"),
            (7, "down"), (7, "turn", "far"), (7, "on", "berta", "far"),
        ])


class ToldTest(unittest.TestCase):
    """Promises 2 and 25: what is told of a Deck."""

    def test_at_first(self):
        self.assertEqual(answers(deck()), {
            "now": 0, "mode": "down", "turn": "near", "on_deck": {}, "load": [0, 0, 0, 0], "near": [], "far": [],
            "ships": [],
        })
        self.assertEqual(deck(WEAK, (0, 2)).load(), [0, 0, 0])

    def test_lines_hold_those_that_came_in_worked_minutes(self):
        one = deck(rule=NEVER)
        one.rest_hours(Stretch(0, 20))
        one.cart("a", "near", 10)
        one.cart("b", "far", 10, 2)
        one.cart("c", "near", 10, 3)
        one.ship("d", at=1)
        for minute, near, far, ships in [
            (0, [], [], []), (1, ["a"], [], []), (2, ["a"], [], ["d"]), (3, ["a"], ["b"], ["d"]),
            (4, ["a", "c"], ["b"], ["d"]), (20, ["a", "c"], ["b"], ["d"]), (21, ["c"], ["b"], ["d"]),
        ]:
            one.go_to(minute)
            self.assertEqual((one.line("near"), one.line(bank="far"), one.ships()), (near, far, ships))

    def test_plain_kinds(self):
        one = deck()
        one.cart("a", "near", 10)
        one.ship("b", at=2)
        events = one.go_to(2)
        self.assertIs(type(events), list)
        self.assertEqual({type(event) for event in events}, {tuple})
        for thing, kind in [(one.now(), int), (one.mode(), str), (one.turn(), str), (one.on_deck(), dict),
                            (one.load(), list), (one.line("near"), list), (one.ships(), list)]:
            self.assertIs(type(thing), kind)
        for thing in (one.cart("c", "near", 1), one.ship("d"), one.rest_hours(Stretch(0))):
            self.assertIsNone(thing)

    def test_what_is_told_is_the_askers_own(self):
        one, other = deck(), deck()
        for each in (one, other):
            each.cart("a", "near", 10)
            each.cart("b", "near", 10)
            each.cart("c", "near", 10, at=2)
            each.ship("d", at=2)
            each.ship("e", at=2)
            each.cart("f", "far", 10, at=1)
        one_events, other_events = [], []
        for minute in range(60):
            told = one.go_to(minute)
            one_events.extend(told)
            told.append((0, "out"))
            for thing in (one.on_deck(), one.load(), one.line("near"), one.line("far"), one.ships()):
                thing.clear()
            one.on_deck()["a"] = 3
            one.load()[0] = 99
            one.line("near").append("z")
            one.line("far").append("z")
            one.ships().append("z")
            other_events.extend(other.go_to(minute))
            self.assertEqual(answers(one), answers(other))
        self.assertEqual(one_events, other_events)

    def test_what_was_told_stays_while_the_deck_goes_on(self):
        one = deck()
        one.cart("a", "near", 10)
        one.cart("b", "near", 10)
        one.ship("c")
        one.go_to(1)
        told = one.go_to(1), one.on_deck(), one.load(), one.line("near"), one.ships()
        before = [(dict if type(thing) is dict else list)(thing) for thing in told]
        one.go_to(100)
        self.assertEqual(list(told), before)

    def test_two_decks_apart(self):
        one, other = deck(), deck()
        one.cart("a", "near", 10)
        one.go_to(3)
        self.assertEqual(answers(other), answers(deck()))
        other.cart("a", "near", 10)
        self.assertEqual(other.go_to(1), [(0, "on", "a", "near")])


class FarTest(unittest.TestCase):
    """Promise 25: going on is soon done, however far."""

    def test_nothing_to_be_done(self):
        one = deck()
        self.assertEqual(one.go_to(MOST), [])
        self.assertEqual(one.now(), MOST)
        assert_refused(self, Late, {"minute": MOST}, one.go_to, MOST - 1)

    def test_things_told_for_far_minutes(self):
        one = deck()
        one.cart("a", "near", 10, at=MOST - 5)
        one.ship("b", at=MOST // 2)
        self.assertEqual(one.go_to(MOST), [
            (MOST // 2, "out"), (MOST // 2 + 5, "through", "b"), (MOST // 2 + 15, "back"), (MOST // 2 + 20, "down"),
            (MOST - 5, "on", "a", "near"), (MOST - 1, "off", "a", "far"),
        ])

    def test_all_wait_for_hours(self):
        one = deck(rule=NEVER)
        one.rest_hours(Stretch(0, MOST - 3))
        for name in ("a", "b", "c"):
            one.cart(name, "near", 10)
            one.cart(name * 2, "far", 10)
            one.ship(name * 3)
        self.assertEqual(one.go_to(MOST - 3), [])
        self.assertEqual(one.line("far"), ["aa", "bb", "cc"])
        self.assertEqual(one.go_to(MOST), [(MOST - 3 + k, "on", "abc"[k], "near") for k in range(3)])

    def test_sixty_hours_of_rest(self):
        one = deck(rule=TUESDAYS)
        for k in range(60):
            one.rest_hours(Stretch(k * WEEK, k * WEEK + WEEK - k % 2))
        one.cart("a", "near", 10)
        one.ship("b")
        # The first minute in no hours of rest is the last one of the second week.
        self.assertEqual(one.go_to(MOST), [
            (2 * DAY, "out"), (2 * DAY + 5, "through", "b"), (2 * DAY + 15, "back"), (2 * DAY + 20, "down"),
            (2 * WEEK - 1, "on", "a", "near"), (2 * WEEK + 3, "off", "a", "far"),
        ])

    def test_a_ship_that_waits_for_its_weekday_while_carts_come(self):
        one = deck(rule=TUESDAYS)
        one.ship("s", at=3 * DAY)
        for k in range(90):
            one.cart(chr(97 + k // 26) + chr(97 + k % 26), ("near", "far")[k % 2], 10, at=3 * DAY + 60 * k)
        events = one.go_to(MOST)
        self.assertEqual(len([event for event in events if event[1] == "off"]), 90)
        self.assertIn((9 * DAY, "out"), events)


if __name__ == "__main__":
    unittest.main()
