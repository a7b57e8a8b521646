"""Promise 9: bridges."""

import re
import unittest

from boatbridge.boats import Boat
from boatbridge.bridges import Bridge, read_bridge
from boatbridge.errors import NoBoat, NoBridge, NoSpan
from tests.anything import assert_equal_both_ways, assert_refused, no_texts, one_sign_away, things

MOST = 10 ** 6
NAMES = ["anna", "berta", "carla", "dora", "emma", "frieda", "gerda", "hanna", "ida", "jutta", "klara"]

FORM = re.compile(r"(?:[1-9][0-9]{0,6} [a-z]{1,8}:[1-9][0-9]{0,6} ){1,10}[1-9][0-9]{0,6}")


def small():
    return Bridge([Boat("anna", 40), Boat("berta", 7)], [30, 25, 1])


def boats_of(many):
    return [Boat(name, 10 + k) for k, name in enumerate(NAMES[:many])]


def is_bridge_text(text):
    """By the form that promise 9 tells, and not by the program's own way."""
    if FORM.fullmatch(text) is None:
        return False
    words = re.split("[ :]", text)
    numbers = [int(word) for word in words if word.isdecimal()]
    names = [word for word in words if not word.isdecimal()]
    return max(numbers) <= MOST and len(set(names)) == len(names)


class BridgeTest(unittest.TestCase):
    def test_boats_and_spans(self):
        bridge = small()
        self.assertEqual(bridge.boats(), [Boat("anna", 40), Boat("berta", 7)])
        self.assertEqual(bridge.spans(), [30, 25, 1])
        self.assertIs(type(bridge.boats()), list)
        self.assertIs(type(bridge.spans()), list)

    def test_arguments_by_names(self):
        bridge = Bridge(spans=[30, 25, 1], boats=[Boat("anna", 40), Boat("berta", 7)])
        self.assertEqual(bridge, small())

    def test_length_is_how_many_boats(self):
        for many in range(1, 11):
            with self.subTest(many):
                bridge = Bridge(boats_of(many), list(range(1, many + 2)))
                self.assertEqual(len(bridge), many)
                self.assertIs(bool(bridge), True)
                self.assertEqual(len(bridge.spans()), many + 1)

    def test_lists_told_are_the_askers_own(self):
        bridge = small()
        bridge.boats().append(Boat("carla", 1))
        bridge.boats().clear()
        bridge.spans()[0] = 99
        bridge.spans().reverse()
        self.assertEqual(bridge, small())
        self.assertEqual(str(bridge), "30 anna:40 25 berta:7 1")
        self.assertEqual(bridge.boat("anna"), Boat("anna", 40))
        self.assertIsNot(bridge.boats(), bridge.boats())
        self.assertIsNot(bridge.spans(), bridge.spans())

    def test_lists_told_stay(self):
        bridge = small()
        boats, spans = bridge.boats(), bridge.spans()
        bridge.with_boat(0, Boat("carla", 3))
        self.assertEqual((boats, spans), ([Boat("anna", 40), Boat("berta", 7)], [30, 25, 1]))

    def test_lists_handed_in_stay_and_are_copied(self):
        boats, spans = [Boat("anna", 40), Boat("berta", 7)], [30, 25, 1]
        bridge = Bridge(boats, spans)
        self.assertEqual((boats, spans), ([Boat("anna", 40), Boat("berta", 7)], [30, 25, 1]))
        boats.reverse()
        boats[0] = Boat("carla", 1)
        spans[1] = 99
        spans.clear()
        self.assertEqual(bridge, small())

    def test_the_interface_lists_its_methods(self):
        for name in ("boats", "spans", "boat", "with_boat"):
            self.assertIn(name, vars(Bridge))


class NoBridgeTest(unittest.TestCase):
    def assert_no_bridge(self, boats, spans):
        assert_refused(self, NoBridge, {}, Bridge, boats, spans)
        assert_refused(self, NoBridge, {}, Bridge, boats=boats, spans=spans)

    def test_how_many_boats(self):
        for many in (0, 11):
            self.assert_no_bridge(boats_of(many), [5] * (many + 1))
        for many in (1, 10):
            self.assertEqual(len(Bridge(boats_of(many), [5] * (many + 1))), many)
        self.assert_no_bridge([Boat("a" * (k % 8 + 1) + "b" * (k // 8), 1) for k in range(200)], [5] * 201)

    def test_how_many_spans(self):
        for many in (1, 2, 9, 10):
            for spans in range(many + 5):
                with self.subTest(many=many, spans=spans):
                    if spans == many + 1:
                        self.assertEqual(len(Bridge(boats_of(many), [5] * spans)), many)
                    else:
                        self.assert_no_bridge(boats_of(many), [5] * spans)

    def test_what_spans_bear(self):
        for at in range(3):
            for bears in (0, -1, MOST + 1, 10 ** 30, None, True, False, "5", "", [5], (5,), {}, Boat("dora", 5)):
                with self.subTest(at=at, bears=bears):
                    spans = [30, 25, 1]
                    spans[at] = bears
                    self.assert_no_bridge(boats_of(2), spans)
            for bears in (1, 2, MOST - 1, MOST):
                spans = [30, 25, 1]
                spans[at] = bears
                self.assertEqual(Bridge(boats_of(2), spans).spans(), spans)

    def test_two_boats_of_one_name(self):
        self.assert_no_bridge([Boat("anna", 40), Boat("anna", 40)], [1, 2, 3])
        self.assert_no_bridge([Boat("anna", 40), Boat("anna", 41)], [1, 2, 3])
        self.assert_no_bridge([Boat("anna", 40), Boat("berta", 1), Boat("anna", 3)], [1, 2, 3, 4])
        self.assert_no_bridge([*boats_of(9), Boat("ida", 1)], [1] * 11)

    def test_lists_alone_will_do(self):
        boats, spans = boats_of(2), [30, 25, 1]
        self.assert_no_bridge(tuple(boats), spans)
        self.assert_no_bridge(boats, tuple(spans))
        self.assert_no_bridge({boat.name: boat for boat in boats}, spans)
        self.assert_no_bridge(boats, {0: 30, 1: 25, 2: 1})
        self.assert_no_bridge(boats, "30 25 1")
        self.assert_no_bridge("anna:40", [30, 25])
        self.assert_no_bridge(Boat("anna", 40), [30, 25])
        self.assert_no_bridge([Boat("anna", 40)], Boat("anna", 40))
        self.assert_no_bridge(spans, boats)

    def test_things_that_are_no_boats_among_them(self):
        for thing in things():
            with self.subTest(thing=thing):
                self.assert_no_bridge([thing], [1, 2])
                self.assert_no_bridge([Boat("dora", 1), thing], [1, 2, 3])
                self.assert_no_bridge([thing, Boat("dora", 1)], [1, 2, 3])
                self.assert_no_bridge([[Boat("dora", 1)], thing], [1, 2, 3])

    def test_anything(self):
        for thing in things():
            with self.subTest(thing=thing):
                self.assert_no_bridge(thing, [1, 2])
                self.assert_no_bridge(thing, thing)
                self.assert_no_bridge([Boat("dora", 1)], [thing, 0])
                if thing != [0, 1]:
                    self.assert_no_bridge([Boat("dora", 1)], thing)

    def test_boats_where_spans_should_be(self):
        self.assert_no_bridge([Boat("anna", 1)], [Boat("anna", 1), 2])
        self.assert_no_bridge([Boat("anna", 1)], [Boat("anna", 1), Boat("berta", 1)])
        self.assert_no_bridge([30, 25], [Boat("anna", 1)])
        self.assert_no_bridge([(Boat("anna", 1),)], [1, 2])

    def test_a_bridge_is_no_boat(self):
        self.assert_no_bridge([small()], [1, 2])


class EqualBridgesTest(unittest.TestCase):
    def test_equal(self):
        assert_equal_both_ways(self, small(), small(), True)
        assert_equal_both_ways(self, small(), read_bridge("30 anna:40 25 berta:7 1"), True)
        bridge = small()
        assert_equal_both_ways(self, bridge, bridge, True)

    def test_unlike(self):
        anna, berta = Boat("anna", 40), Boat("berta", 7)
        for other in [
            Bridge([anna, Boat("berta", 8)], [30, 25, 1]),
            Bridge([anna, Boat("bert", 7)], [30, 25, 1]),
            Bridge([Boat("anna", 41), berta], [30, 25, 1]),
            Bridge([berta, anna], [30, 25, 1]),
            Bridge([anna, berta], [25, 30, 1]),
            Bridge([anna, berta], [1, 25, 30]),
            Bridge([anna, berta], [31, 25, 1]),
            Bridge([anna, berta], [30, 24, 1]),
            Bridge([anna, berta], [30, 25, 2]),
            Bridge([anna], [30, 25]),
            Bridge([anna, berta, Boat("carla", 1)], [30, 25, 1, 1]),
        ]:
            with self.subTest(str(other)):
                assert_equal_both_ways(self, small(), other, False)

    def test_nothing_else_is_equal(self):
        boats, spans = small().boats(), small().spans()
        others = things() + [
            str(small()), (boats, spans), [boats, spans], boats, spans, tuple(boats), Boat("anna", 40), object(),
            {"boats": boats, "spans": spans},
        ]
        for other in others:
            with self.subTest(other=other):
                assert_equal_both_ways(self, small(), other, False)


class TextTest(unittest.TestCase):
    def test_str(self):
        self.assertEqual(str(Bridge([Boat("anna", 40)], [30, 25])), "30 anna:40 25")
        self.assertEqual(str(small()), "30 anna:40 25 berta:7 1")
        self.assertEqual(f"{small()}", "30 anna:40 25 berta:7 1")
        self.assertEqual(str(Bridge([Boat("a", MOST)], [MOST, 1])), "1000000 a:1000000 1")

    def test_written_and_read_back(self):
        for many in range(1, 11):
            for spans in ([1] * (many + 1), [MOST] * (many + 1), list(range(90, 91 + many))):
                bridge = Bridge(boats_of(many), spans)
                told = read_bridge(str(bridge))
                self.assertIs(type(told), Bridge)
                self.assertEqual(told, bridge)
                self.assertEqual(str(told), str(bridge))
                self.assertEqual(told.spans(), spans)

    def test_read(self):
        bridge = read_bridge("30 anna:40 25")
        self.assertEqual((bridge.boats(), bridge.spans()), ([Boat("anna", 40)], [30, 25]))
        self.assertEqual(read_bridge(text="1 zebrazzz:1000000 1000000").boat("zebrazzz").bears, MOST)

    def assert_no_bridge(self, text):
        assert_refused(self, NoBridge, {}, read_bridge, text)

    def test_texts_that_are_no_bridges(self):
        for text in [
            "", " ", "30", "anna:40", "30 25", "30 anna:40", "anna:40 25", "30 anna:40 25 26",
            "30 30 anna:40 25", "30 anna:40 25 berta:7", "30 anna:40 berta:7 25", "30 anna:40 25 x berta:7 1",
            " 30 anna:40 25", "30 anna:40 25 ", "30  anna:40 25", "30 anna:40  25", "30 anna:40 25\n",
            "\n30 anna:40 25", "30\nanna:40\n25", "30 anna :40 25", "30 anna: 40 25", "30 anna:40\n25",
            "030 anna:40 25", "30 anna:040 25", "30 anna:40 025", "0 anna:40 25", "30 anna:0 25", "30 anna:40 0",
            "00 anna:40 25", "30 anna:00 25", "+30 anna:40 25", "-30 anna:40 25", "30 anna:-40 25", "30 anna:+40 25",
            "1000001 anna:40 25", "30 anna:1000001 25", "30 anna:40 1000001", "30 anna:40 9999999999",
            "30 :40 25", "30 anna: 25", "30 anna 25", "30 anna::40 25", "30 anna:40: 25", "30 :anna:40 25",
            "30 Anna:40 25", "30 ANNA:40 25", "30 an-na:40 25", "30 anna1:40 25", "30 an_na:40 25",
            "30 abcdefghi:40 25", "30 anna:4_0 25", "3_0 anna:40 25", "30 anna:40.0 25", "30 anna:x 25", "x anna:4 2",
            "30 anna:40 25 anna:40 1", "30 anna:40 25 anna:7 1", "30 anna:40 25 berta:7 1 anna:9 2",
            "30,anna:40,25", "30 40:anna 25", "Bridge([Boat('anna', 40)], [30, 25])", "None",
            "30 anna:" + "9" * 7000 + " 25", "9" * 7900 + " anna:40 25", "30 " + "a" * 7000 + ":40 25",
            "30 anna:0x28 25", "30 anna:4e1 25",
        ]:
            with self.subTest(text[:40]):
                self.assert_no_bridge(text)

    def test_figures_and_letters_of_other_scripts(self):
        for text in ("\u0663\u0660 anna:40 25", "30 anna:\u0664\u0660 25", "30 \u00e4nna:40 25", "3\u00b2 anna:40 25"):
            self.assert_no_bridge(text)

    def test_how_many_boats_are_read(self):
        for many in range(1, 13):
            names = ["b" + "a" * (k % 7) + "c" * (k // 7) for k in range(many)]
            text = " ".join(["5", *[f"{name}:6 7" for name in names]])
            if many <= 10:
                self.assertEqual(str(read_bridge(text)), text)
            else:
                self.assert_no_bridge(text)

    def test_what_is_no_text(self):
        for thing in [*no_texts(), small(), Boat("anna", 40), [30, Boat("anna", 40), 25]]:
            with self.subTest(thing=thing):
                self.assert_no_bridge(thing)

    def test_each_text_one_sign_away(self):
        for text in ("30 anna:40 25", "1 a:1 1", "1000000 zebrazzz:1000000 1", "3 a:4 5 b:6 7"):
            for near in one_sign_away(text, "019ab: -+_A\n"):
                with self.subTest(near):
                    if is_bridge_text(near):
                        self.assertEqual(str(read_bridge(near)), near)
                    else:
                        self.assert_no_bridge(near)

    def test_each_word_dropped_doubled_or_turned_about(self):
        words = "30 anna:40 25 berta:7 1".split(" ")
        for k in range(len(words)):
            for near in (words[:k] + words[k + 1:], words[:k] + [words[k]] + words[k:],
                         words[:k] + [""] + words[k:], words[:k] + words[k:k + 2][::-1] + words[k + 2:]):
                text = " ".join(near)
                if is_bridge_text(text):
                    self.assertEqual(str(read_bridge(text)), text)
                else:
                    self.assert_no_bridge(text)


class BoatOfTest(unittest.TestCase):
    def test_one_that_is_there(self):
        bridge = small()
        self.assertEqual(bridge.boat("anna"), Boat("anna", 40))
        self.assertEqual(bridge.boat("berta"), Boat("berta", 7))
        self.assertEqual(bridge.boat(name="berta"), Boat("berta", 7))
        many = Bridge(boats_of(10), [1] * 11)
        for boat in boats_of(10):
            self.assertEqual(many.boat(boat.name), boat)

    def test_one_that_is_not(self):
        for name in ["carla", "", "ann", "annab", "Anna", "anna:40", " anna", "anna ", "a" * 8000, "0"]:
            with self.subTest(name[:20]):
                refusal = assert_refused(self, NoBoat, {"name": name}, small().boat, name)
                self.assertIs(refusal.name, name)

    def test_anything(self):
        for thing in things() + [("anna",), ["anna"], {"anna"}, Boat("anna", 40)]:
            if thing != "anna":
                with self.subTest(thing=thing):
                    refusal = assert_refused(self, NoBoat, {"name": thing}, small().boat, thing)
                    self.assertIs(refusal.name, thing)


class WithBoatTest(unittest.TestCase):
    def test_at_each_number(self):
        for at in range(10):
            bridge = Bridge(boats_of(10), list(range(1, 12)))
            told = bridge.with_boat(at, Boat("zora", 99))
            boats = boats_of(10)
            boats[at] = Boat("zora", 99)
            self.assertIs(type(told), Bridge)
            self.assertEqual(told, Bridge(boats, list(range(1, 12))))
            self.assertEqual(bridge, Bridge(boats_of(10), list(range(1, 12))))
            self.assertIsNot(told, bridge)

    def test_by_names(self):
        self.assertEqual(str(small().with_boat(boat=Boat("x", 5), at=1)), "30 anna:40 25 x:5 1")

    def test_with_the_name_of_the_boat_in_that_place(self):
        self.assertEqual(str(small().with_boat(0, Boat("anna", 5))), "30 anna:5 25 berta:7 1")
        self.assertEqual(small().with_boat(1, Boat("berta", 7)), small())
        self.assertEqual(str(Bridge([Boat("a", 1)], [1, 1]).with_boat(0, Boat("a", 2))), "1 a:2 1")

    def test_with_a_name_that_another_boat_has(self):
        bridge = small()
        assert_refused(self, NoBridge, {}, bridge.with_boat, 0, Boat("berta", 7))
        assert_refused(self, NoBridge, {}, bridge.with_boat, 0, Boat("berta", 40))
        assert_refused(self, NoBridge, {}, bridge.with_boat, at=1, boat=Boat("anna", 40))
        self.assertEqual(bridge, small())

    def test_anything_else_for_a_number(self):
        bridge = small()
        for at in things() + [-1, -2, 2, 3, True, False, None, "0", "1", 10 ** 20, Boat("anna", 40)]:
            if at not in (0, 1) or isinstance(at, bool):
                with self.subTest(at=at):
                    refusal = assert_refused(self, NoSpan, {"at": at}, bridge.with_boat, at, Boat("x", 5))
                    self.assertIs(refusal.at, at)
        self.assertEqual(bridge, small())

    def test_the_number_is_asked_ahead_of_the_name(self):
        for at in (2, -1, True, None):
            assert_refused(self, NoSpan, {"at": at}, small().with_boat, at, Boat("anna", 40))


if __name__ == "__main__":
    unittest.main()
