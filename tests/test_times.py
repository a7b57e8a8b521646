"""Promise 5: minutes written and read."""

import copy
import re
import unittest

from boatbridge.errors import NoTime
from boatbridge.times import read_time, show_time
from tests.anything import one_sign_away

FORM = re.compile(r"([01][0-9]|2[0-3]):([0-5][0-9])(?:\+([1-9][0-9]*))?")

WRITTEN = {
    0: "00:00",
    1: "00:01",
    9: "00:09",
    59: "00:59",
    60: "01:00",
    425: "07:05",
    599: "09:59",
    600: "10:00",
    1380: "23:00",
    1439: "23:59",
    1440: "00:00+1",
    1441: "00:01+1",
    1865: "07:05+1",
    2879: "23:59+1",
    2880: "00:00+2",
    14399: "23:59+9",
    14400: "00:00+10",
    143999: "23:59+99",
    144000: "00:00+100",
    999360: "00:00+694",
    10 ** 6: "10:40+694",
}

BEYOND = {
    10 ** 6 + 1: "10:41+694",
    1000799: "23:59+694",
    1000800: "00:00+695",
    1440 * 1000: "00:00+1000",
    10 ** 9: "10:40+694444",
}

SIGNS = "0123456789:+- .aHMD/\n"

NO_TEXTS = [
    None, True, False, 0, 1, -1, 425, 10 ** 12, [], ["07:05"], [["07:05"]], (), ("07:05",),
    {}, {"07:05": 425}, {425: "07:05"}, ["0", "7", ":", "0", "5"], ("07", "05"),
]

NO_TIMES = [
    "", " ", "\n", "0", "7:05", "07:5", "0705", "07:05:00", "007:05", "07:005", "07.05", "07-05",
    " 07:05", "07:05 ", "07: 05", "07 :05", "07:05\n", "\n07:05", "07:05+1\n", "07:05\n+1",
    "24:00", "25:00", "99:00", "24:00+1", "00:60", "07:99", "23:60+1",
    "07:05+", "07:05+0", "07:05+00", "07:05+01", "07:05+001", "07:05+ 1", "07:05 +1", "07:05+1 ",
    "07:05-1", "07:05+-1", "07:05++1", "07:05+1+", "07:05+1+1", "07:05+1.0", "07:05+a", "07:05+1_0",
    "+07:05", "-07:05", "-1:05", "+7:05", "07:+5", "07:-5", "1_:05", "_1:05", "07:_5", "0_7:05",
    "07", "07:", ":05", ":", "+", "+1", ":+", ":+1", "07:+1", "07+1", "07+1:05", "1+07:05", ":05+1",
    "aa:bb", "07:0a", "a7:05", "HH:MM", "HH:MM+D", "07:05+D", "07;05", "0x:05", "07:05+0x1",
    "10:41+694", "23:59+694", "00:00+695", "00:00+999", "00:00+1000", "10:40+694444",
    "07:05+" + "9" * 20, "07:05+" + "9" * 5000, "0" * 5000 + "7:05", "07:" + "0" * 5000, "1" * 8000,
]


class ShowTimeTest(unittest.TestCase):
    def test_minutes_to_a_million_and_beyond(self):
        for minute, word in [*WRITTEN.items(), *BEYOND.items()]:
            with self.subTest(minute):
                self.assertEqual(show_time(minute), word)
                self.assertIs(type(show_time(minute)), str)

    def test_by_its_name(self):
        self.assertEqual(show_time(minute=425), "07:05")

    def test_all_minutes_of_the_first_days_by_hand(self):
        minute = 0
        for day in ("", "+1", "+2"):
            for hour in range(24):
                for rest in range(60):
                    word = str(hour).zfill(2) + ":" + str(rest).zfill(2) + day
                    self.assertEqual(show_time(minute), word)
                    minute += 1


class ReadTimeTest(unittest.TestCase):
    def assert_no_time(self, thing):
        with self.assertRaises(NoTime) as caught:
            read_time(thing)
        self.assertIs(caught.exception.word, thing)

    def test_what_is_written_is_read(self):
        for minute, word in WRITTEN.items():
            with self.subTest(word):
                self.assertEqual(read_time(word), minute)
                self.assertIs(type(read_time(word)), int)

    def test_by_its_name(self):
        self.assertEqual(read_time(word="07:05"), 425)
        with self.assertRaises(NoTime):
            read_time(word="07:5")

    def test_there_and_back(self):
        for minute in [*range(4400), *range(4400, 10 ** 6, 97), *range(10 ** 6 - 2000, 10 ** 6 + 1)]:
            self.assertEqual(read_time(show_time(minute)), minute)

    def test_beyond_a_million_nothing_is_read(self):
        for word in BEYOND.values():
            with self.subTest(word):
                self.assert_no_time(word)

    def test_texts_that_are_no_times(self):
        for word in NO_TIMES:
            with self.subTest(word[:20]):
                self.assert_no_time(word)

    def test_what_is_no_text(self):
        for thing in NO_TEXTS:
            with self.subTest(thing=thing):
                before = copy.deepcopy(thing)
                self.assert_no_time(thing)
                self.assertEqual(thing, before)

    def test_things_within_one_another(self):
        thing = "07:05"
        for _ in range(10):
            thing = [thing, (thing,), {"a": None}]
            self.assert_no_time(thing)

    def test_figures_of_other_scripts_are_none(self):
        for word in ("0\u0667:05", "\u0660\u0667:\u0660\u0665", "07:05+\u0661", "07:05+\u00b2"):
            with self.subTest(word):
                self.assert_no_time(word)

    def test_each_text_one_sign_away(self):
        for word in ("00:00", "07:05", "19:59", "23:59", "23:59+1", "07:05+10", "10:40+694"):
            for near in one_sign_away(word, SIGNS):
                with self.subTest(near):
                    minute = minute_by_form(near)
                    if minute is None:
                        self.assert_no_time(near)
                    else:
                        self.assertEqual(read_time(near), minute)


def minute_by_form(word):
    """The minute by the form that promise 5 tells, or None."""
    form = FORM.fullmatch(word)
    if form is None:
        return None
    minute = int(form[1]) * 60 + int(form[2]) + 1440 * int(form[3] or 0)
    return minute if minute <= 10 ** 6 else None


if __name__ == "__main__":
    unittest.main()
