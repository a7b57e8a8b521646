"""Promise 14: readings written and read by wire."""

import re
import unittest

from boatbridge.errors import NoWire
from boatbridge.times import show_time
from boatbridge.wires import read_wire, show_wire
from tests.anything import assert_refused, no_texts, one_sign_away, things

FORM = re.compile(r"([wi])(0|[1-9a-f][0-9a-f]{0,2})@([01][0-9]|2[0-3]):([0-5][0-9])(?:\+([1-9][0-9]*))?")

WRITTEN = {
    (425, "water", 31): "w1f@07:05",
    (425, "ice", 31): "i1f@07:05",
    (0, "water", 0): "w0@00:00",
    (0, "ice", 0): "i0@00:00",
    (1439, "water", 9): "w9@23:59",
    (1439, "ice", 10): "ia@23:59",
    (1440, "ice", 15): "if@00:00+1",
    (1865, "water", 16): "w10@07:05+1",
    (1865, "water", 160): "wa0@07:05+1",
    (60, "ice", 255): "iff@01:00",
    (60, "ice", 256): "i100@01:00",
    (61, "water", 2748): "wabc@01:01",
    (61, "water", 3567): "wdef@01:01",
    (14400, "ice", 4094): "iffe@00:00+10",
    (10 ** 6, "water", 4095): "wfff@10:40+694",
}

NO_WIRES = [
    "", " ", "@", "w", "i", "w@", "w0", "w0@", "0@00:00", "w@00:00", "@00:00", "wi@00:00", "w00:00",
    "w1000@07:05", "i1000@07:05", "wffff@07:05", "w" + "f" * 7000 + "@07:05", "w" + "0" * 7000 + "1@07:05",
    "w01f@07:05", "w00@07:05", "w000@07:05", "w0f@07:05", "w001@07:05", "i0fff@07:05",
    "w1F@07:05", "wA@07:05", "iF@07:05", "wFFF@07:05", "wAbC@07:05", "W1f@07:05", "I1f@07:05",
    "x1f@07:05", "f1f@07:05", "11f@07:05", "water1f@07:05", "ice1f@07:05", "wi1f@07:05", "ww1f@07:05",
    "w1f07:05", "w1f@@07:05", "w1f@07@05", "w1f@07:05@", "@w1f@07:05", "w1f@07:05@07:05", "w@1f@07:05",
    "w1g@07:05", "w-1@07:05", "w+1@07:05", "w 1@07:05", "w1 @07:05", "w1_f@07:05", "w0x1@07:05", "wx1@07:05",
    "w1.0@07:05", "w1f @07:05", "w1f@ 07:05", " w1f@07:05", "w1f@07:05 ", "w1f@07:05\n", "\nw1f@07:05", "w1f\n@07:05",
    "w1f@7:05", "w1f@07:5", "w1f@24:00", "w1f@07:60", "w1f@0705", "w1f@07:05+", "w1f@07:05+0", "w1f@07:05+01",
    "w1f@10:41+694", "w1f@00:00+695", "w1f@23:59+9999", "w1f@10:40+694444", "w1f@425", "w1f@-1:00",
    "w1f@07:05+" + "9" * 5000, "w1f@07:05 i1f@07:05", "(425, 'water', 31)",
]


def reading_by_form(word):
    """The reading by the form that promise 14 tells, or None."""
    form = FORM.fullmatch(word)
    if form is None:
        return None
    minute = int(form[3]) * 60 + int(form[4]) + 1440 * int(form[5] or 0)
    number = 0
    for figure in form[2]:
        number = 16 * number + "0123456789abcdef".index(figure)
    return (minute, {"w": "water", "i": "ice"}[form[1]], number) if minute <= 10 ** 6 else None


class ShowWireTest(unittest.TestCase):
    def test_readings(self):
        for reading, word in WRITTEN.items():
            with self.subTest(word):
                self.assertEqual(show_wire(reading), word)
                self.assertIs(type(show_wire(reading)), str)

    def test_by_its_name(self):
        self.assertEqual(show_wire(reading=(425, "water", 31)), "w1f@07:05")

    def test_minutes_beyond_what_is_read(self):
        self.assertEqual(show_wire((10 ** 6 + 1, "ice", 5)), "i5@10:41+694")
        self.assertEqual(show_wire((10 ** 9, "ice", 5)), "i5@10:40+694444")


class ReadWireTest(unittest.TestCase):
    def assert_no_wire(self, thing):
        refusal = assert_refused(self, NoWire, {"word": thing}, read_wire, thing)
        self.assertIs(refusal.word, thing)

    def test_what_is_written_is_read(self):
        for reading, word in WRITTEN.items():
            with self.subTest(word):
                told = read_wire(word)
                self.assertEqual(told, reading)
                self.assertIs(type(told), tuple)
                self.assertEqual([type(thing) for thing in told], [int, str, int])

    def test_by_its_name(self):
        self.assertEqual(read_wire(word="w1f@07:05"), (425, "water", 31))
        with self.assertRaises(NoWire):
            read_wire(word="w01f@07:05")

    def test_all_numbers_there_and_back(self):
        for number in range(4096):
            for kind in ("water", "ice"):
                reading = (number * 244, kind, number)
                self.assertEqual(read_wire(show_wire(reading)), reading)

    def test_one_number_more(self):
        self.assert_no_wire("w1000@07:05")
        self.assert_no_wire("i1000@00:00")

    def test_minutes_to_a_million(self):
        for minute in (0, 1, 1439, 1440, 999999, 10 ** 6):
            self.assertEqual(read_wire("i5@" + show_time(minute)), (minute, "ice", 5))
        for minute in (10 ** 6 + 1, 1000799, 1000800, 10 ** 9):
            self.assert_no_wire("i5@" + show_time(minute))

    def test_texts_that_are_no_wires(self):
        for word in NO_WIRES:
            with self.subTest(word[:30]):
                self.assert_no_wire(word)

    def test_anything(self):
        for thing in [*things(), *no_texts(), ("w1f@07:05",), ["w1f@07:05"], {"w": "water"}, (425, "water", 31)]:
            with self.subTest(thing=thing):
                self.assert_no_wire(thing)

    def test_figures_of_other_scripts_are_none(self):
        for word in ("w\u0661@07:05", "w1f@0\u0667:05", "\uff571f@07:05", "w\uff41@07:05"):
            self.assert_no_wire(word)

    def test_each_text_one_sign_away(self):
        for word in ("w1f@07:05", "i0@00:00", "wfff@10:40+694", "i100@23:59+1"):
            for near in one_sign_away(word, "0159afgwiAFW@:+- \n"):
                with self.subTest(near):
                    reading = reading_by_form(near)
                    if reading is None:
                        self.assert_no_wire(near)
                    else:
                        self.assertEqual(read_wire(near), reading)


if __name__ == "__main__":
    unittest.main()
