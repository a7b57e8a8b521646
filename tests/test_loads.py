"""Promises 10 and 11: loads borne or not, and the room that they leave."""

import itertools
import unittest

from boatbridge.boats import Boat
from boatbridge.bridges import Bridge, read_bridge
from boatbridge.errors import NoSpan, Overload
from boatbridge.loads import full_load, halves, halves_without, is_borne, need_borne, room_at
from tests.anything import assert_refused, things

MOST = 10 ** 6


def bridge_of(bears, spans):
    return Bridge([Boat("abcdefghij"[k], one) for k, one in enumerate(bears)], list(spans))


def fault(bears, spans, load):
    """The first part that has too much, by promise 10 word by word, boats in quarters of a half."""
    for at in range(len(spans)):
        if load[at] > spans[at]:
            return ("span", at, load[at] - spans[at])
    for at in range(len(bears)):
        if load[at] + load[at + 1] > bears[at] + bears[at]:
            return ("boat", at, load[at] + load[at + 1] - bears[at] - bears[at])
    return None


class LoadCase(unittest.TestCase):
    def assert_borne(self, bridge, load):
        self.assertIsNone(need_borne(bridge, load))
        self.assertIs(is_borne(bridge, load), True)

    def assert_overload(self, bridge, load, part, at, over):
        fields = {"part": part, "at": at, "over": over}
        assert_refused(self, Overload, fields, need_borne, bridge, load)
        assert_refused(self, Overload, fields, need_borne, load=load, bridge=bridge)
        self.assertIs(is_borne(bridge, load), False)


class HalvesTest(LoadCase):
    def test_ordinary(self):
        self.assertEqual(halves(read_bridge("30 anna:40 25"), [7, 4]), [11])
        self.assertEqual(halves(read_bridge("30 anna:40 25 berta:7 1"), [7, 4, 1]), [11, 5])
        self.assertEqual(halves(read_bridge("1 a:1 1 b:1 1 c:1 1"), [1, 2, 4, 8]), [3, 6, 12])
        self.assertEqual(halves(load=[0, 3], bridge=read_bridge("1 a:1 1")), [3])

    def test_whatever_is_borne(self):
        self.assertEqual(halves(read_bridge("1 a:1 1"), [MOST, MOST]), [2 * MOST])
        self.assertEqual(halves(read_bridge("1 a:1 1"), [0, 0]), [0])

    def test_ten_boats(self):
        self.assertEqual(halves(bridge_of([1] * 10, [1] * 11), list(range(11))), list(range(1, 21, 2)))

    def test_told_is_a_new_list(self):
        bridge, load = read_bridge("30 anna:40 25"), [7, 4]
        told = halves(bridge, load)
        self.assertIs(type(told), list)
        told.append(9)
        self.assertEqual(halves(bridge, load), [11])
        self.assertEqual(load, [7, 4])


class WithoutTest(LoadCase):
    """Promise 12: what each boat bears while one is out."""

    def test_the_neighbours_have_both_spans(self):
        bridge = read_bridge("1 a:1 1 b:1 1 c:1 1")
        self.assertEqual(halves_without(bridge, [1, 2, 4, 8], 0), [0, 7, 12])
        self.assertEqual(halves_without(bridge, [1, 2, 4, 8], 1), [7, 0, 14])
        self.assertEqual(halves_without(bridge, [1, 2, 4, 8], 2), [3, 14, 0])
        self.assertEqual(halves_without(read_bridge("1 a:1 1"), [5, 7], 0), [0])

    def test_no_load_is_one_without_weights(self):
        load = [1, 2]
        self.assertEqual(full_load(read_bridge("1 a:1 1"), None), [0, 0])
        self.assertEqual(full_load(read_bridge("1 a:1 1"), load), [1, 2])


class BorneTest(LoadCase):
    def test_none_and_ordinary(self):
        bridge = read_bridge("30 anna:40 25 berta:7 10")
        self.assert_borne(bridge, [0, 0, 0])
        self.assert_borne(bridge, [30, 5, 9])

    def test_on_the_brim_of_a_span(self):
        bridge = read_bridge("30 anna:40 25 berta:40 10")
        for at, bears in enumerate((30, 25, 10)):
            load = [0, 0, 0]
            load[at] = bears
            self.assert_borne(bridge, load)
            load[at] = bears + 1
            self.assert_overload(bridge, load, "span", at, 1)
        self.assert_borne(bridge, [30, 25, 10])

    def test_on_the_brim_of_a_boat_in_halves(self):
        bridge = read_bridge("100 anna:20 100 berta:7 100")
        self.assert_borne(bridge, [40, 0, 14])
        self.assert_overload(bridge, [41, 0, 0], "boat", 0, 1)
        self.assert_overload(bridge, [0, 0, 15], "boat", 1, 1)
        self.assert_borne(bridge, [26, 14, 0])
        self.assert_overload(bridge, [27, 14, 0], "boat", 0, 1)
        self.assert_overload(bridge, [26, 14, 1], "boat", 1, 1)
        self.assert_overload(bridge, [25, 15, 3], "boat", 1, 4)

    def test_an_odd_half_counts(self):
        bridge = read_bridge("9 a:1 9")
        self.assert_borne(bridge, [1, 1])
        self.assert_borne(bridge, [2, 0])
        self.assert_overload(bridge, [2, 1], "boat", 0, 1)

    def test_over_of_a_span_is_told_whole(self):
        self.assert_overload(read_bridge("30 anna:1 25"), [35, 0], "span", 0, 5)
        self.assert_overload(read_bridge("30 anna:1000000 25"), [0, MOST], "span", 1, MOST - 25)

    def test_all_spans_ahead_of_all_boats(self):
        bridge = read_bridge("30 anna:1 25 berta:1 10")
        self.assert_overload(bridge, [30, 25, 11], "span", 2, 1)
        self.assert_overload(bridge, [30, 25, 10], "boat", 0, 53)
        self.assert_overload(bridge, [31, 26, 11], "span", 0, 1)
        self.assert_overload(bridge, [0, 26, 12], "span", 1, 1)
        self.assert_overload(bridge, [0, 2, 10], "boat", 1, 10)

    def test_all_small_ones(self):
        for bears in itertools.product((1, 2), repeat=2):
            for spans in itertools.product((1, 3), repeat=3):
                bridge = bridge_of(bears, spans)
                for load in itertools.product(range(5), repeat=3):
                    told = fault(bears, spans, load)
                    if told is None:
                        self.assert_borne(bridge, list(load))
                    else:
                        self.assert_overload(bridge, list(load), *told)

    def test_by_names(self):
        bridge = read_bridge("30 anna:40 25")
        self.assertIsNone(need_borne(load=[1, 1], bridge=bridge))
        self.assertIs(is_borne(load=[1, 1], bridge=bridge), True)

    def test_the_load_stays(self):
        load = [30, 99]
        self.assertIs(is_borne(read_bridge("30 anna:40 25"), load), False)
        self.assertEqual(load, [30, 99])


class RoomTest(LoadCase):
    def test_ordinary(self):
        bridge = read_bridge("30 anna:10 25 berta:7 10")
        self.assertEqual([room_at(bridge, [0, 0, 0], at) for at in range(3)], [20, 14, 10])
        self.assertEqual([room_at(bridge, [12, 6, 1], at) for at in range(3)], [2, 2, 7])
        self.assertEqual([room_at(bridge, [20, 0, 10], at) for at in range(3)], [0, 0, 0])
        self.assertEqual(room_at(at=1, load=[1, 0, 0], bridge=bridge), 14)

    def test_so_much_and_no_more(self):
        for bears in itertools.product((1, 2, 4), repeat=2):
            for spans in itertools.product((1, 2, 5), repeat=3):
                bridge = bridge_of(bears, spans)
                for load in itertools.product(range(4), repeat=3):
                    if is_borne(bridge, list(load)):
                        for at in range(3):
                            self.assert_room(bridge, list(load), at)

    def test_so_much_and_no_more_on_ten_boats(self):
        bridge = bridge_of([3, 9, 1, 5, 10, 7, 2, 4, 8, 6], [20, 3, 9, 8, 7, 99, 15, 2, 4, 30, 11])
        for load in ([0] * 11, [1] * 11, [4, 1, 1, 0, 4, 9, 4, 0, 2, 3, 4]):
            self.assert_borne(bridge, load)
            for at in range(11):
                self.assert_room(bridge, load, at)

    def assert_room(self, bridge, load, at):
        room = room_at(bridge, load, at)
        self.assertIs(type(room), int)
        self.assertGreaterEqual(room, 0)
        put = list(load)
        put[at] += room
        self.assertTrue(is_borne(bridge, put))
        put[at] += 1
        self.assertFalse(is_borne(bridge, put))

    def test_anything_else_for_a_number(self):
        bridge, load = read_bridge("30 anna:10 25"), [1, 2]
        for at in things() + [2, 3, -1, -2, True, False, "0", None]:
            if at not in (0, 1) or isinstance(at, bool):
                with self.subTest(at=at):
                    refusal = assert_refused(self, NoSpan, {"at": at}, room_at, bridge, load, at)
                    self.assertIs(refusal.at, at)

    def test_the_load_stays(self):
        load = [1, 2]
        room_at(read_bridge("30 anna:10 25"), load, 0)
        self.assertEqual(load, [1, 2])


if __name__ == "__main__":
    unittest.main()
