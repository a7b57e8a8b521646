"""Promise 18: rules of hours written and read, or refused at the first wrong word."""

import itertools
import unittest

from boatbridge.errors import NoRule
from boatbridge.hours import Both, Days, Either, Hours, Rule, Unless
from boatbridge.hourtexts import read_rule
from tests.anything import assert_refused, no_texts, one_sign_away
from tests.ruletexts import can_begin, first_wrong, is_rule_text

H = "08:00-10:30"
MORNING = Hours(480, 630)

RULES = [
    MORNING, Hours(630, 480), Hours(0, 1439), Hours(1439, 0), Days((0,)), Days((6,)), Days((0, 2)),
    Days((0, 1, 2, 3, 4, 5, 6)), Unless(MORNING), Unless(Days((3,))), Both(()), Either(()), Both((MORNING,)),
    Either((MORNING, Hours(5, 6), Days((1, 4)))), Both((Either(()), Both(()), Unless(Both(())))),
    Both(tuple([MORNING] * 8)), Either(tuple([Days((k % 7,)) for k in range(8)])),
    Unless(Unless(Unless(Unless(Unless(MORNING))))), Unless(Unless(Unless(Unless(Unless(Days((0,))))))),
    Unless(Both((Either((Unless(Both((Either(()), MORNING, Days((5,)), Both(())))), MORNING)), Days((0, 1))))),
]


def deep(many, inside=H, word="unless"):
    """The text of so many brackets around the inside."""
    return f"( {word} " * many + inside + " )" * many


class RuleTextCase(unittest.TestCase):
    def assert_no_rule(self, text, at):
        assert_refused(self, NoRule, {"at": at}, read_rule, text)

    def assert_as_told(self, text):
        """Read or refused as by tests/ruletexts.py."""
        words = tuple(text.split(" "))
        if is_rule_text(words):
            self.assertEqual(str(read_rule(text)), text)
        else:
            with self.assertRaises(NoRule) as caught:
                read_rule(text)
            self.assertEqual(caught.exception.at, first_wrong(words), text)


class ReadTest(RuleTextCase):
    def test_written_and_read_back(self):
        for rule in RULES:
            with self.subTest(str(rule)):
                told = read_rule(str(rule))
                self.assertEqual(told, rule)
                self.assertIs(type(told), type(rule))
                self.assertEqual(str(told), str(rule))
                self.assertIsInstance(told, Rule)
                for minute in (0, 480, 629, 630, 1440, 4000, 9999):
                    self.assertIs(told.allows(minute), rule.allows(minute))

    def test_what_is_read(self):
        hours = read_rule("22:00-06:00")
        self.assertEqual((hours.first, hours.behind), (1320, 360))
        self.assertEqual(read_rule("( days 0 2 )").days, (0, 2))
        self.assertEqual(read_rule(text="( unless 08:00-10:30 )").rule, MORNING)
        self.assertEqual(read_rule("( both 08:00-10:30 ( either ) )").rules, (MORNING, Either(())))
        self.assertIs(type(read_rule("( either )").rules), tuple)

    def test_all_days(self):
        for many in range(1, 8):
            for days in itertools.combinations(range(7), many):
                text = " ".join(["( days", *[str(day) for day in days], ")"])
                self.assertEqual(read_rule(text), Days(days))

    def test_as_great_as_can_be(self):
        rule = Hours(1, 0)
        for k in range(4):
            rule = (Both, Either)[k % 2](tuple([rule] * 8))
        self.assertEqual(read_rule(str(rule)), rule)
        self.assertEqual(read_rule(str(Unless(rule))), Unless(rule))
        self.assertEqual(read_rule(str(Both(tuple([rule] * 8)))), Both(tuple([rule] * 8)))

    def test_asked_again_all_is_new(self):
        one, other = read_rule("( days 0 2 )"), read_rule("( days 0 2 )")
        self.assertEqual(one, other)
        self.assertIsNot(one, other)


class WrongWordTest(RuleTextCase):
    def test_hours(self):
        for word in [
            "24:00-10:30", "08:00-24:00", "00:00-24:00", "08:00-08:00", "00:00-00:00", "08:00-10:30+1", "08:00+1-10:30",
            "08:00+1-10:30+1", "08:00+0-10:30", "08:00-00:00+1", "00:00+1-10:30", "08:00", "08:00-",
            "-10:30", "-", "08:00--10:30", "08:00-10:30-11:00",
            "8:00-10:30", "08:00-10:3", "08:60-10:30", "08:00-10:60", "08:00_10:30", "08:00:10:30", "0800-1030",
            "480-630", "hours", "h", "08:00-10:30)", "(08:00-10:30", "08:00-10:30\n", "\n08:00-10:30", "08:00\n-10:30",
            "08:00-10:30,", "8", "0",
        ]:
            with self.subTest(word):
                self.assert_no_rule(word, 0)
                self.assert_no_rule(f"( unless {word} )", 2)
                self.assert_no_rule(f"( both {H} {word} )", 3)
                self.assert_no_rule(f"( either ( days 0 ) {word} {H} )", 6)
                self.assert_no_rule(f"{H} {word}", 1)

    def test_days(self):
        for text, at in [
            ("( days )", 2), ("( days", 2), ("( days 0", 3), ("( days 0 2", 4), ("( days 0 0 )", 3),
            ("( days 2 0 )", 3),
            ("( days 3 3 )", 3), ("( days 0 1 1 )", 4), ("( days 0 5 4 )", 4), ("( days 7 )", 2), ("( days 0 7 )", 3),
            ("( days 10 )", 2), ("( days 00 )", 2), ("( days 01 )", 2), ("( days -1 )", 2), ("( days +1 )", 2),
            ("( days 0 1 2 3 4 5 6", 9), ("( days 0 1 2 3 4 5 6 6 )", 9), ("( days 6 7 )", 3), ("( days x )", 2),
            ("( days 0,2 )", 2), ("( days 02 )", 2), (f"( days {H} )", 2), (f"( days 0 {H} )", 3),
            ("( days ( days 0 ) )", 2),
            ("( days 0 ( days 1 ) )", 3), ("( days 0 days )", 3), ("( days days )", 2), ("( days 0 ) )", 4),
            ("( days 0  2 )", 3), ("( days  0 )", 2), ("( days 1 \n )", 3), ("( days 1_0 )", 2),
            ("( days " + "9" * 7000, 2),
            ("( days \u0661 )", 2), ("( days \u00b2 )", 2), ("days 0 2", 0), ("( 0 2 )", 1), ("( days 0 2 ) 3", 5),
        ]:
            with self.subTest(text[:40]):
                self.assert_no_rule(text, at)

    def test_brackets(self):
        for text, at in [
            ("(", 1), (")", 0), ("( )", 1), (") (", 0), ("( (", 1), ("( ( both ) )", 1), ("()", 0), ("(both)", 0),
            ("( both", 2), ("( either", 2), ("( unless", 2), (f"( both {H}", 3), (f"( either {H} {H}", 4),
            (f"( unless {H}", 3), ("( both ) )", 3), ("( both )) ", 2), ("( both)", 1), ("(both )", 0),
            ("( both ) (", 3),
            (f"{H} )", 1), (f"( {H} )", 1), (f"( unless ( both {H} )", 6), (f"( unless {H} ) )", 4), ("( both ( )", 3),
            ("( both ( either )", 5), ("( both [ ] )", 2), ("[ both ]", 0), ("both )", 0), ("both", 0), ("either )", 0),
            (f"unless {H}", 0), (f"( both {H} ) )", 4), ("( both ( ( either ) ) )", 3), ("( both ) ( either )", 3),
        ]:
            with self.subTest(text):
                self.assert_no_rule(text, at)

    def test_words_of_one_anothers_places(self):
        for text, at in [
            ("( unless )", 2), (f"( unless {H} {H} )", 3), ("( unless unless )", 2), ("( unless both )", 2),
            ("( unless 0 )", 2), ("( both 0 )", 2), ("( both both )", 2), ("( either days 0 )", 2),
            ("( both ( 0 ) )", 3),
            ("( Both )", 1), ("( BOTH )", 1), ("( all )", 1), ("( neither )", 1), (f"( hours {H} )", 1), ("( or )", 1),
            (f"( both {H} unless )", 3), (f"( unless {H} ( both ) )", 3), (f"( both {H} 0 )", 3), ("( day 0 )", 1),
            (f"( {H} both )", 1), ("( unless ( days 0 ) 1 )", 6), ("( both ( days 1 either ) )", 5),
            ("( botheither )", 1),
        ]:
            with self.subTest(text):
                self.assert_no_rule(text, at)

    def test_blanks(self):
        for text, at in [
            ("", 0), (" ", 0), ("  ", 0), (f" {H}", 0), (f"{H} ", 1), (f"{H}  ", 1), (" ( both )", 0), ("( both ) ", 3),
            ("(  both )", 1), ("( both  )", 2), (f"( both {H}  {H} )", 3), (f"( unless  {H} )", 2),
            (f"( unless {H}  )", 3),
            ("( ", 1), ("( both ", 2), (f"( unless {H} ", 3), ("( days 0 ", 3),
        ]:
            with self.subTest(text):
                self.assert_no_rule(text, at)

    def test_line_feeds(self):
        for text, at in [
            ("\n", 0), (f"{H}\n", 0), (f"\n{H}", 0), ("( both )\n", 2), ("(\nboth )", 0), ("( both\n)", 1),
            (f"{H}\n{H}", 0),
            (f"{H} \n", 1), ("( both \n )", 2), ("( days 0\n2 )", 2), (f"( unless {H}\n )", 2), ("( both ) \n", 3),
        ]:
            with self.subTest(text):
                self.assert_no_rule(text, at)

    def test_what_is_no_text(self):
        for thing in [*no_texts(), MORNING, Both(()), (H,), [H], {H: H}]:
            with self.subTest(thing=thing):
                self.assert_no_rule(thing, 0)


class BoundsTest(RuleTextCase):
    def test_eight_rules_in_one_and_nine(self):
        for word in ("both", "either"):
            self.assertEqual(len(read_rule(f"( {word}" + f" {H}" * 8 + " )").rules), 8)
            self.assert_no_rule(f"( {word}" + f" {H}" * 9 + " )", 10)
            self.assert_no_rule(f"( {word}" + f" {H}" * 20 + " )", 10)
            self.assert_no_rule(f"( {word}" + f" {H}" * 8, 10)
            self.assert_no_rule(f"( {word}" + f" {H}" * 9, 10)
            self.assert_no_rule(f"( {word}" + f" {H}" * 8 + " (", 10)
            self.assert_no_rule(f"( {word}" + f" {H}" * 8 + " x", 10)
            self.assert_no_rule(f"( {word}" + f" {H}" * 7, 9)
            self.assert_no_rule(f"( {word}" + " ( days 0 )" * 9 + " )", 34)
            self.assertEqual(len(read_rule(f"( {word}" + " ( days 0 )" * 8 + " )").rules), 8)

    def test_nine_within_another_one(self):
        self.assert_no_rule(f"( unless ( both" + f" {H}" * 9 + " ) )", 12)
        self.assert_no_rule(f"( either ( both" + f" {H}" * 8 + " )" + f" {H}" * 8 + " )", 20)

    def test_six_within_one_another(self):
        for text in [
            deep(5), deep(5, "( days 0 )"), deep(5, "( both )"), deep(5, "( either )", "both"), deep(5, H, "either"),
        ]:
            with self.subTest(text):
                self.assertEqual(str(read_rule(text)), text)

    def test_seven_within_one_another(self):
        # Six brackets leave no room for a Rule in the last one: "unless" can't stand there at all,
        # while "both" and "either" may, with none in them.
        self.assert_no_rule(deep(6), 11)
        self.assert_no_rule(deep(7), 11)
        self.assert_no_rule(deep(900), 11)
        self.assert_no_rule(deep(5, "( unless"), 11)
        self.assert_no_rule(deep(5, "( unless )"), 11)
        self.assert_no_rule(deep(6, H, "both"), 12)
        self.assert_no_rule(deep(6, "( days 0 )", "either"), 12)
        self.assert_no_rule(deep(7, H, "both"), 12)
        self.assert_no_rule(deep(1300, "", "both"), 12)
        self.assert_no_rule("( " * 3900, 1)

    def test_where_more_must_come_six_deep(self):
        self.assert_no_rule(" ".join(["( unless"] * 5), 10)
        self.assert_no_rule(" ".join(["( unless"] * 5 + ["("]), 11)
        self.assert_no_rule(" ".join(["( unless"] * 6), 11)
        self.assert_no_rule(" ".join(["( both"] * 6), 12)
        self.assert_no_rule(" ".join(["( both"] * 6 + ["("]), 12)
        self.assert_no_rule(" ".join(["( both"] * 6 + [")"]), 13)
        self.assert_no_rule(" ".join(["( unless"] * 5 + [H]), 11)
        self.assert_no_rule(" ".join(["( unless"] * 5 + [H, ")", ")", ")", ")"]), 15)
        self.assert_no_rule(deep(5) + " )", 16)

    def test_both_bounds_side_by_side(self):
        inside = deep(4, "( either )")
        self.assertEqual(len(read_rule("( both " + " ".join([inside] * 8) + " )").rules), 8)
        self.assert_no_rule("( both " + " ".join([inside] * 9) + " )", 2 + 8 * 15)


class AllTextsTest(RuleTextCase):
    """Held against tests/ruletexts.py, where a text is tried from the inmost brackets out."""

    def test_the_other_way_by_hand(self):
        for words, told in [
            ((H,), True), (("(", "both", ")"), True), (("(", "unless", ")"), False),
            (("(", "days", "0", "2", ")"), True),
            (("(", "days", "2", "0", ")"), False), ((")",), False), (("(", "unless", H, ")"), True),
            (tuple(deep(5).split(" ")), True), (tuple(deep(6).split(" ")), False),
            (("(", "both", *[H] * 9, ")"), False),
        ]:
            self.assertIs(is_rule_text(words), told)
        self.assertTrue(can_begin(()))
        self.assertTrue(can_begin(("(", "days")))
        self.assertFalse(can_begin((")",)))

    def test_all_texts_of_few_words(self):
        words = ["(", ")", "days", "unless", "both", "0", "3", H, ""]
        for many in range(1, 5):
            for chosen in itertools.product(words, repeat=many):
                self.assert_as_told(" ".join(chosen))

    def test_all_that_begin_as_a_rule(self):
        words = ["(", ")", "unless", "either", "0", H]
        for begin in ("( unless", "( both", "( either", "( days", "( both ( unless", f"( either {H}"):
            for many in range(1, 5):
                for chosen in itertools.product(words, repeat=many):
                    self.assert_as_told(" ".join([begin, *chosen]))

    def test_each_rules_text_cut_short_or_with_one_word_otherwise(self):
        others = ["(", ")", "days", "unless", "both", "either", "0", "6", H, "", "x"]
        for rule in RULES:
            words = str(rule).split(" ")
            for at in range(len(words)):
                self.assert_no_rule(" ".join([*words[:at], "x", *words[at + 1:]]), at)
                if at > 0:
                    self.assert_no_rule(" ".join(words[:at]), at)
                if len(words) < 30:
                    self.assert_as_told(" ".join(words[:at] + words[at + 1:]))
                    for other in others:
                        self.assert_as_told(" ".join([*words[:at], other, *words[at + 1:]]))
                        self.assert_as_told(" ".join([*words[:at], other, *words[at:]]))
            for other in others:
                self.assert_no_rule(" ".join([*words, other]), len(words))

    def test_each_text_one_sign_away(self):
        for text in (H, "( days 0 2 )", f"( unless {H} )", "( both ( either ) )"):
            for near in one_sign_away(text, "0126:-() bd+\n"):
                self.assert_as_told(near)


if __name__ == "__main__":
    unittest.main()
