"""Promise 30: rows said at a Desk, word by word; what they answer, and what is refused."""

import itertools
import unittest

from boatbridge.desk import Desk
from boatbridge.errors import (
    Late, NoBridge, NoDeck, NoDeed, NoRow, NoRule, NoStretch, Overload, Taken,
)
from tests.anything import assert_refused, no_texts

BRIDGE = "30 anna:40 25"
DEEDS = ("bridge", "rule", "cart", "ship", "rest", "go", "deck", "line", "ships", "waits", "book")

# A row of each deed that is as it has to be, of a deck that there is, and no option.
ROWS = (
    "bridge a 0 1 30 anna:40 25", "rule a 08:00-10:30", "cart a carla near 10", "ship a ida", "rest a 00:05 00:09",
    "go a 00:05", "deck a", "line a near", "ships a", "waits a", "book a near",
)


def desk(*rows, bridge=BRIDGE, options=""):
    """A desk that has a deck a, with these rows said."""
    told = Desk()
    told.say(f"bridge a 0 1 {bridge}{options}")
    for row in rows:
        told.say(row)
    return told


def look(desk, name="a"):
    """All that the desk answers of a deck, and changes nothing."""
    rows = ("deck {}", "line {} near", "line {} far", "ships {}", "waits {}", "book {} near", "book {} far")
    return [desk.say(row.format(name)) for row in rows]


class DeskCase(unittest.TestCase):
    def assert_answers(self, desk, *rows):
        """Row and answer by turns."""
        for row, answer in zip(rows[::2], rows[1::2], strict=True):
            with self.subTest(row):
                self.assertEqual(desk.say(row), answer)

    def assert_no_row(self, row, desk=None):
        assert_refused(self, NoRow, {"row": row}, (desk or Desk()).say, row)


class WordsTest(DeskCase):
    """What is refused for its words alone."""

    def test_what_is_no_text(self):
        for thing in [*no_texts(), ["deck a"], ("deck", "a"), b"deck a"]:
            self.assert_no_row(thing)
            self.assert_no_row(thing, desk())

    def test_another_first_word(self):
        for row in (
            "", " ", "  ", "Deck a", "decks a", " deck a", "dec", "bridges a 0 1 30 anna:40 25", "x" * 8000, "a", "ok",
            "none", "load a", "deck\na", "deck=1 a", "-", "at=5", "\n",
        ):
            with self.subTest(row[:9]):
                assert_refused(self, NoDeed, {"word": row.split(" ")[0]}, desk().say, row)
        # Ahead of all that is wrong behind it.
        assert_refused(self, NoDeed, {"word": "load"}, Desk().say, "load  A x=")

    def test_each_deed_is_known(self):
        for row in ROWS:
            self.assertIs(type(desk().say(row)), str)
            self.assertIs(type(desk().say(row=row)), str)
        self.assertEqual(tuple(row.split(" ")[0] for row in ROWS), DEEDS)

    def test_too_few_words(self):
        for row in ROWS:
            words = row.split(" ")
            least = {"bridge": 5, "rule": 3}.get(words[0], len(words))
            for many in range(1, least):
                short = " ".join(words[:many])
                with self.subTest(short):
                    self.assert_no_row(short)
                    self.assert_no_row(short, desk())

    def test_too_many_words(self):
        for row in ROWS[2:]:
            for word in ("a", "near", "5", "00:05", "x=5", "none"):
                with self.subTest(row=row, word=word):
                    self.assert_no_row(f"{row} {word}", desk())
                    # Ahead of a deck that is not there.
                    self.assert_no_row(f"{row} {word}")

    def test_blanks_at_an_end_and_side_by_side(self):
        for row in ROWS:
            self.assert_no_row(row + " ", desk())
            self.assert_no_row(row + " ")
            self.assert_no_row(row + "  ", desk())
            for at, sign in enumerate(row):
                if sign == " ":
                    self.assert_no_row(row[:at] + " " + row[at:], desk())
                    self.assert_no_row(row[:at] + " " + row[at:])

    def test_names(self):
        for row in ROWS:
            words = row.split(" ")
            for at in (1, 2) if words[0] in ("cart", "ship") else (1,):
                for name in ("A", "Anna", "abcdefghi", "a1", "5", "a:", "-", "anna\n", "at=5", "="):
                    other = " ".join(words[:at] + [name] + words[at + 1:])
                    with self.subTest(other):
                        self.assert_no_row(other, desk())
        self.assertEqual(Desk().say(f"bridge abcdefgh 0 1 {BRIDGE}"), "ok")

    def test_banks(self):
        for bank in ("Near", "n", "over", "nearfar", "5", "banks", "near=1"):
            for row in (f"cart a carla {bank} 10", f"line a {bank}", f"book a {bank}"):
                self.assert_no_row(row, desk())
                self.assert_no_row(row)

    def test_numbers(self):
        wrong = (
            "", "-1", "+1", "01", "007", "00", "1.0", "1e3", "x", "0x1", "1_0", "10:00", "9" * 10, "1" * 4000, "5=",
            "=",
        )
        for number in wrong:
            for row in (
                f"bridge a {number} 9 {BRIDGE}", f"bridge a 0 {number} {BRIDGE}", f"cart a carla near {number}",
                f"cart a carla near 10 at={number}", f"ship a ida at={number}", f"ship a ida long={number}",
                f"waits a most={number}", f"bridge a 0 1 {BRIDGE} out={number}", f"bridge a 0 1 {BRIDGE} rest={number}",
                f"bridge a 0 1 {BRIDGE} turn={number}",
            ):
                with self.subTest(row[:40]):
                    self.assert_no_row(row, desk())
                    self.assert_no_row(row)

    def test_bounds(self):
        for form, least, most in [
            ("cart a carla near {}", 1, 10 ** 6), ("cart a carla near 10 at={}", 0, 999999999),
            ("ship a ida at={}", 0, 999999999), ("ship a ida long={}", 1, 60), ("waits a most={}", 0, 999999999),
            ("bridge b 0 1 30 anna:40 25 out={}", 1, 60), ("bridge b 0 1 30 anna:40 25 rest={}", 0, 1000),
            ("bridge b 0 1 30 anna:40 25 turn={}", 1, 20),
            ("bridge b {} 10 " + " ".join(["1"] + [f"{sign}:1 1" for sign in "abcdefghij"]), 0, 10),
            ("bridge b 0 {} " + " ".join(["1"] + [f"{sign}:1 1" for sign in "abcdefghij"]), 0, 10),
        ]:
            wide = "1000000 anna:1000000 1000000"
            for number in (least, most):
                self.assertIn(desk(bridge=wide).say(form.format(number)), ("ok", "none"))
            for number in (least - 1, most + 1):
                with self.subTest(form, number=number):
                    self.assert_no_row(form.format(number), desk(bridge=wide))

    def test_times(self):
        for time in (
            "", "5", "7:05", "07:60", "24:00", "07:05+0", "07:05+01", "10:41+694", "07:05-", "07:05+x", "-00:01",
            "at=5", "07:05 07:06 07:07",
        ):
            for row in (f"go a {time}", f"rest a {time} 23:00+99", f"rest a 00:00 {time}"):
                with self.subTest(row):
                    self.assert_no_row(row, desk())
                    self.assert_no_row(row)
        self.assertEqual(desk().say("go a 10:40+694"), "none")
        self.assertEqual(desk().say("rest a 10:40+694 10:40+694"), "ok")

    def test_options_in_any_order_each_once(self):
        for many in range(4):
            for some in itertools.permutations(("out=2", "rest=3", "turn=1"), many):
                self.assertEqual(Desk().say(" ".join(["bridge a 0 1", BRIDGE, *some])), "ok")
        for row in (
            "cart a carla near 10 at=5 at=6", "cart a carla near 10 at=5 at=5", "ship a ida long=5 at=6 long=5",
            "waits a most=1 most=1", f"bridge a 0 1 {BRIDGE} out=2 rest=3 out=2",
        ):
            self.assert_no_row(row, desk())
        for row in ("ship a ida at=3 long=5", "ship a ida long=5 at=3"):
            one = desk(row)
            self.assertEqual(one.say("go a 01:00"), "00:03 out; 00:08 through ida; 00:13 back; 00:18 down")

    def test_unknown_options_and_those_of_another_row(self):
        for row in (
            "cart a carla near 10 long=5", "cart a carla near 10 weight=5", "cart a carla near 10 AT=5",
            "cart a carla near 10 at:5", "cart a carla near 10 =5", "cart a carla near 10 at==5",
            "cart a carla near 10 5", "cart a carla near 10 at=5=5", "ship a ida turn=5", "ship a ida most=5",
            "rest a 00:05 00:09 at=5",
            "go a 00:05 at=5", "deck a at=5", "line a near most=5", "ships a most=5", "waits a at=5",
            "book a near most=5", f"bridge a 0 1 {BRIDGE} at=5", f"bridge a 0 1 {BRIDGE} out=5 gap=3",
            f"bridge a 0 1 {BRIDGE} x=5 out=5",
            f"bridge a 0 1 {BRIDGE} span=5", "cart a carla at=5 near 10", "cart a at=5 carla near 10",
            "waits most=5 a", "ship a long=5 ida",
        ):
            with self.subTest(row):
                self.assert_no_row(row, desk())
                self.assert_no_row(row)

    def test_no_deck_of_the_name(self):
        for row in ROWS[1:]:
            other = row.replace(" a", " b", 1)
            assert_refused(self, NoDeck, {"name": "a"}, Desk().say, row)
            assert_refused(self, NoDeck, {"name": "b"}, desk().say, other)


class BridgeTest(DeskCase):
    def test_a_deck_at_first(self):
        self.assert_answers(
            Desk(), f"bridge a 0 1 {BRIDGE}", "ok", "deck a", "down near", "line a near", "none", "line a far", "none",
            "ships a", "none", "waits a", "none", "waits a most=0", "none", "book a near", "near", "book a far", "far",
            "go a 00:00", "none", "go a 00:00", "none", "go a 12:00+7", "none")

    def test_the_part(self):
        for first, last, out in [(0, 0, 1), (1, 1, 2), (0, 1, 2)]:
            one = Desk()
            one.say(f"bridge a {first} {last} {BRIDGE}")
            one.say("cart a carla near 10")
            one.say("ship a ida at=1")
            self.assertIn(f"00:0{out} out", one.say("go a 00:03"))

    def test_first_and_last(self):
        for first, last in [(1, 0), (10, 9), (2, 1)]:
            self.assert_no_row(f"bridge a {first} {last} {BRIDGE}")
        # Ahead of a TEXT that is none.
        self.assert_no_row("bridge a 1 0 x")
        self.assert_no_row("bridge a 0 11 x")

    def test_last_is_no_span_of_it(self):
        for first, last in [(0, 2), (2, 2), (0, 10), (10, 10)]:
            one = desk()
            self.assert_no_row(f"bridge a {first} {last} {BRIDGE}", one)
            self.assertEqual(one.say("deck a"), "down near")
            self.assert_no_row(f"bridge b {first} {last} {BRIDGE}", one)
            assert_refused(self, NoDeck, {"name": "b"}, one.say, "deck b")
        self.assertEqual(Desk().say("bridge a 2 2 30 anna:40 25 berta:3 9"), "ok")

    def test_a_text_that_is_no_bridge(self):
        for text in (
            "30", "x", "30 anna:40", "30 anna 25", "30 anna:0 25", "030 anna:40 25", "30 anna:40 25 anna:40 30",
            "30 anna:40 25 x", "0 anna:40 25", "30 out=5 25", "30 anna=40 25", "out=2 30 anna:40 25",
            "30 anna:40 turn=5 25",
        ):
            for row in (f"bridge a 0 0 {text}", f"bridge a 0 0 {text} out=5 rest=3", f"bridge a 0 9 {text}"):
                with self.subTest(row):
                    one = desk("cart a carla near 10")
                    before = look(one)
                    assert_refused(self, NoBridge, {}, one.say, row)
                    self.assertEqual(look(one), before)

    def test_no_text_but_options(self):
        self.assert_no_row("bridge a 0 0 out=5")
        self.assert_no_row("bridge a 0 0 out=5 rest=3 turn=2")
        self.assert_no_row("bridge a 0 0 x=y")

    def test_options(self):
        one = desk(options=" rest=0 turn=1 out=2")
        for row in ("ship a ida long=3", "ship a jana at=6", "cart a carla near 10", "cart a dora near 10",
                    "cart a emma far 10"):
            one.say(row)
        self.assertEqual(one.say("go a 01:00"), (
            "00:00 out; 00:02 through ida; 00:05 back; 00:07 down; 00:07 out; 00:09 through jana; 00:19 back; "
            "00:21 down; 00:21 on carla near; 00:23 off carla far; 00:23 turn far; 00:23 on emma far; "
            "00:25 off emma near; "
            "00:25 turn near; 00:25 on dora near; 00:27 off dora far"))

    def test_in_the_place_of_another_one(self):
        one = desk("cart a carla near 10", "ship a ida at=9", "go a 00:01")
        self.assertEqual(one.say("deck a"), "down near carla:0")
        self.assert_answers(
            one, f"bridge a 0 0 {BRIDGE}", "ok", "deck a", "down near", "waits a", "none", "book a near", "near",
            "cart a carla near 10", "ok", "go a 00:20", "00:00 on carla near; 00:02 off carla far")


class RuleTest(DeskCase):
    def test_made_anew_of_the_same(self):
        one = desk("cart a carla near 10", "ship a ida", "go a 00:09", options=" out=2 rest=9")
        self.assert_answers(
            one, "rule a ( both 00:03-00:10 ( unless 00:04-00:05 ) )", "ok", "deck a", "down near", "waits a", "none",
            "book a near", "near", "ship a ida at=4", "ok",
            "go a 01:00", "00:05 out; 00:07 through ida; 00:17 back; 00:19 down",
            "rule a ( both )", "ok", "ship a ida at=4", "ok",
            "go a 01:00", "00:04 out; 00:06 through ida; 00:16 back; 00:18 down",
            "ship a ida", "ok", "go a 02:00", "01:00 out; 01:02 through ida; 01:12 back; 01:14 down",
            "rule a ( either )", "ok", "ship a ida", "ok", "go a 12:00", "none", "ships a", "ida")

    def test_the_same_part_and_bridge(self):
        one = Desk()
        one.say("bridge a 2 2 30 anna:40 25 berta:3 9")
        one.say("rule a ( both )")
        for row in ("cart a carla near 5", "ship a ida at=1"):
            one.say(row)
        self.assertIn("00:03 out", one.say("go a 00:10"))
        assert_refused(self, Overload, {"part": "boat", "at": 1, "over": 1}, one.say, "cart a dora near 7")

    def test_a_text_that_is_no_rule(self):
        for text, at in [("x", 0), ("08:00-10:30 out=5", 1), ("( both", 2), ("( days 0 2 1 )", 4), ("08:00-08:00", 0),
                         ("( both ) )", 3), ("a=5", 0), ("( unless ( both ) out=5", 5)]:
            one = desk("cart a carla near 10", "go a 00:01")
            before = look(one)
            with self.subTest(text):
                assert_refused(self, NoRule, {"at": at}, one.say, f"rule a {text}")
                self.assertEqual(look(one), before)


class ToldTest(DeskCase):
    """Carts, ships and hours of rest."""

    def test_carts(self):
        one = desk()
        self.assert_answers(
            one, "cart a carla near 10", "ok", "cart a dora far 25 at=7", "ok", "cart a emma near 1 at=0", "ok",
            "line a near", "none", "go a 00:08",
            "00:00 on carla near; 00:01 on emma near; 00:02 off carla far; 00:03 off emma far; "
            "00:07 turn far; 00:07 on dora far",
            "deck a", "down far dora:1", "cart a frida far 10", "ok", "go a 00:09", "00:08 on frida far",
            "deck a", "down far dora:0 frida:1")

    def test_carts_rising_by_names(self):
        one = Desk()
        one.say("bridge a 0 0 90 a:90 90 b:90 90 c:90 90")
        for row in ("cart a zoe near 1", "cart a anna near 1", "cart a mia near 1", "go a 00:03"):
            one.say(row)
        self.assertEqual(one.say("deck a"), "down near anna:1 mia:0 zoe:2")

    def test_ships_and_modes(self):
        self.assert_answers(
            desk(), "ship a ida", "ok", "ship a hanna long=1", "ok", "ship a gerda long=60 at=500", "ok",
            "ships a", "none", "go a 00:01", "00:00 out", "ships a", "ida hanna", "deck a", "out near",
            "go a 00:06", "00:05 through ida",
            "ships a", "hanna", "deck a", "open near", "go a 00:17", "00:15 through hanna; 00:16 back",
            "ships a", "none", "deck a", "back near", "go a 00:22", "00:21 down", "deck a", "down near")

    def test_hours_of_rest(self):
        self.assert_answers(
            desk(), "rest a 00:00 00:03", "ok", "rest a 00:03 00:04", "ok", "rest a 23:00 23:00", "ok",
            "cart a carla near 10", "ok", "cart a dora near 10", "ok", "go a 00:04", "none",
            "line a near", "carla dora", "go a 00:05", "00:04 on carla near", "line a near", "dora")
        one = desk("cart a carla near 10", "go a 00:01")
        before = look(one)
        assert_refused(self, NoStretch, {"first": 9, "behind": 5}, one.say, "rest a 00:09 00:05")
        assert_refused(self, NoStretch, {"first": 1440, "behind": 1439}, one.say, "rest a 00:00+1 23:59")
        self.assertEqual(look(one), before)

    def test_what_the_deck_refuses(self):
        one = desk("cart a carla near 10", "ship a ida at=9", "go a 00:05", "cart a dora near 10")
        before = look(one)
        for row, refusal, fields in [
            ("cart a dora far 99 at=1", Taken, {"name": "dora"}),
            ("cart a ida near 10", Taken, {"name": "ida"}),
            ("ship a dora long=5 at=1", Taken, {"name": "dora"}),
            ("ship a ida", Taken, {"name": "ida"}),
            ("cart a emma far 99 at=1", Overload, {"part": "span", "at": 0, "over": 69}),
            ("cart a emma far 26", Overload, {"part": "span", "at": 1, "over": 1}),
            ("cart a emma far 9 at=4", Late, {"minute": 5}),
            ("ship a emma at=0", Late, {"minute": 5}),
            ("go a 00:04", Late, {"minute": 5}),
        ]:
            with self.subTest(row):
                assert_refused(self, refusal, fields, one.say, row)
                self.assertEqual(look(one), before)
        # None of those refused comes later, nor has taken its name.
        self.assertEqual(one.say("cart a emma far 9 at=5"), "ok")
        self.assertEqual(one.say("go a 00:30"), (
            "00:05 on dora near; 00:07 off dora far; 00:07 turn far; 00:07 on emma far; 00:09 off emma near; "
            "00:09 out; 00:14 through ida; 00:24 back; 00:29 down"))
        self.assertEqual(one.say("waits a"), "carla:0 dora:0 emma:2 ida:5")

    def test_minutes_beyond_a_day(self):
        self.assert_answers(
            desk(), "cart a carla near 10 at=1865", "ok", "go a 00:00+2",
            "07:05+1 on carla near; 07:07+1 off carla far", "book a near", "near / 07:05+1 on carla",
            "waits a", "carla:0")


class WaitsTest(DeskCase):
    def test_comings_by_minutes_then_as_told(self):
        one = desk("rest a 00:00 00:10")
        for row in ("cart a dora near 10 at=3", "ship a ida at=9", "cart a carla near 10", "cart a berta far 10 at=3",
                    "cart a anna far 10 at=50"):
            one.say(row)
        self.assert_answers(
            one, "waits a", "none", "go a 00:01", "none", "waits a", "carla:-", "go a 00:03", "none",
            "waits a", "carla:-", "go a 00:04", "none", "waits a", "carla:- dora:- berta:-", "go a 00:10", "00:09 out",
            "waits a", "carla:- dora:- berta:- ida:-", "go a 00:15", "00:14 through ida",
            "waits a", "carla:- dora:- berta:- ida:5")
        one.say("go a 01:30")
        self.assertEqual(one.say("waits a"), "carla:29 dora:27 berta:29 ida:5 anna:0")

    def test_a_name_that_comes_twice(self):
        one = desk("cart a carla near 10", "go a 00:05", "cart a carla far 10 at=7", "ship a ida at=6")
        self.assertEqual(one.say("waits a"), "carla:0")
        one.say("go a 00:08")
        self.assertEqual(one.say("waits a"), "carla:0 ida:- carla:-")
        one.say("go a 01:00")
        self.assertEqual(one.say("waits a"), "carla:0 ida:5 carla:19")

    def test_most(self):
        one = desk("rest a 00:00 00:10", "cart a dora near 10 at=2", "cart a carla near 10 at=2", "ship a ida at=1")
        one.say("rule a ( either )")
        for row in ("rest a 00:00 00:10", "cart a dora near 10 at=2", "cart a carla near 10 at=2", "ship a ida at=1"):
            one.say(row)
        one.say("go a 00:05")
        # Until 00:04: a wait of more than 1 from 2 on is told at 00:04, and ida's ahead of it.
        self.assert_answers(
            one, "waits a most=0", "ida 00:02 -", "waits a most=1", "ida 00:03 -", "waits a most=2", "ida 00:04 -",
            "waits a most=3", "none",
            "go a 00:20", "00:10 on dora near; 00:11 on carla near; 00:12 off dora far; 00:13 off carla far",
            "waits a most=0", "ida 00:02 -", "waits a most=8", "ida 00:10 -", "waits a most=9", "ida 00:11 dora",
            "waits a most=10", "ida 00:12 carla", "waits a most=17", "ida 00:19 carla", "waits a most=18", "none",
            "waits a most=999999999", "none")

    def test_most_of_several(self):
        one = desk("rest a 00:00 00:10", "cart a dora near 10 at=2", "cart a carla near 10 at=2")
        one.say("go a 00:20")
        self.assert_answers(
            one, "waits a", "dora:8 carla:9", "waits a most=7", "carla 00:10 -", "waits a most=8", "carla 00:11 dora",
            "waits a most=9", "none")


class BookTest(DeskCase):
    def test_before_and_behind_crossings(self):
        one = desk("cart a carla near 10", "cart a dora far 10", "ship a ida")
        self.assert_answers(
            one, "book a near", "near", "book a far", "far",
            "go a 00:21", "00:00 out; 00:05 through ida; 00:15 back; 00:20 down; 00:20 on carla near",
            "book a near", "near / 00:20 on carla", "book a far", "far",
            "go a 01:00", "00:22 off carla far; 00:22 turn far; 00:22 on dora far; 00:24 off dora near",
            "book a near", "near / 00:20 on carla / 00:24 off dora",
            "book a far", "far / 00:22 off carla / 00:22 on dora")


class OrderTest(DeskCase):
    """Which refusal goes first where several are due."""

    def test_words_ahead_of_no_deck(self):
        for row in ("cart b Carla near 10", "go b 24:00", "waits b most=x", "rule b", "line b over"):
            self.assert_no_row(row, desk())

    def test_no_deck_ahead_of_a_text(self):
        assert_refused(self, NoDeck, {"name": "b"}, desk().say, "rule b x")
        assert_refused(self, NoDeck, {"name": "b"}, desk().say, "rest b 00:09 00:05")
        assert_refused(self, NoDeck, {"name": "b"}, desk().say, "cart b carla near 99")

    def test_words_ahead_of_a_text(self):
        self.assert_no_row("rule A x")
        self.assert_no_row("rule a x ", desk())
        self.assert_no_row("bridge a 0 1 x out=61")
        self.assert_no_row("bridge a 0 1 x  25")

    def test_a_text_ahead_of_its_spans(self):
        assert_refused(self, NoBridge, {}, Desk().say, "bridge a 0 9 x")
        self.assert_no_row("bridge a 0 9 30 anna:40 25")


class ApartTest(DeskCase):
    def test_two_decks(self):
        one = desk(f"bridge b 0 0 {BRIDGE}", "cart a carla near 10", "cart b carla far 10", "go a 00:05")
        self.assert_answers(
            one, "waits a", "carla:0", "waits b", "none", "book b near", "near", "go b 00:01",
            "00:00 turn far; 00:00 on carla far", "deck a", "down near", "deck b", "down far carla:1")
        one.say("rule b ( either )")
        self.assertEqual(one.say("waits a"), "carla:0")

    def test_two_desks(self):
        one, other = desk("cart a carla near 10", "go a 00:01"), desk()
        self.assertEqual(one.say("deck a"), "down near carla:0")
        self.assertEqual(other.say("deck a"), "down near")
        assert_refused(self, NoDeck, {"name": "a"}, Desk().say, "deck a")


if __name__ == "__main__":
    unittest.main()
