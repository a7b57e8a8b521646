"""Promise 12: rows that keep a load while boats are changed."""

import itertools
import unittest

from boatbridge.boats import Boat
from boatbridge.bridges import Bridge, read_bridge
from boatbridge.changelooks import keeps
from tests.anything import things
from tests.rows import carried, row_keeps


def boats_of(bears, letters="abcdefghij"):
    return [Boat(letters[k], one) for k, one in enumerate(bears)]


def bridge_of(bears, spans=None):
    return Bridge(boats_of(bears), spans or [10 ** 6] * (len(bears) + 1))


class HandTest(unittest.TestCase):
    """The other way of reckoning, by hand."""

    def test_carried(self):
        self.assertEqual(carried([1, 2, 4, 8]), [3, 6, 12])
        self.assertEqual(carried([1, 2, 4, 8], 0), [0, 1 + 2 + 4, 12])
        self.assertEqual(carried([1, 2, 4, 8], 1), [1 + 2 + 4, 0, 2 + 4 + 8])
        self.assertEqual(carried([1, 2, 4, 8], 2), [3, 2 + 4 + 8, 0])
        self.assertEqual(carried([5, 7], 0), [0])


class KeepsTest(unittest.TestCase):
    def test_while_one_is_out_both_neighbours_bear_its_spans(self):
        # Boat 1 out: the neighbours bear 1 + 2 + 4 and 2 + 4 + 8 halves; boat 0 out: boat 1 bears 7.
        load = [1, 2, 4, 8]
        new = boats_of([9, 9, 9], "xyz")
        for old, kept in [
            ([4, 4, 7], True),
            ([3, 4, 7], False),
            ([4, 4, 6], False),
            ([4, 3, 7], True),
        ]:
            with self.subTest(old):
                self.assertIs(keeps(bridge_of(old), new, load, [1, 0, 2]), kept)
        self.assertIs(keeps(bridge_of([9, 4, 9]), new, load, [0, 1, 2]), True)
        self.assertIs(keeps(bridge_of([9, 3, 9]), new, load, [0, 1, 2]), False)

    def test_new_neighbours_are_asked_once_they_are_in(self):
        load = [1, 2, 4, 8]
        old = bridge_of([9, 9, 9])
        self.assertIs(keeps(old, boats_of([4, 9, 9], "xyz"), load, [0, 1, 2]), True)
        self.assertIs(keeps(old, boats_of([3, 9, 9], "xyz"), load, [0, 1, 2]), False)
        self.assertIs(keeps(old, boats_of([3, 9, 9], "xyz"), load, [1, 0, 2]), True)
        self.assertIs(keeps(old, boats_of([9, 9, 7], "xyz"), load, [2, 1, 0]), True)
        self.assertIs(keeps(old, boats_of([9, 9, 6], "xyz"), load, [2, 1, 0]), False)
        self.assertIs(keeps(old, boats_of([9, 9, 6], "xyz"), load, [1, 2, 0]), True)

    def test_on_the_brim_while_a_boat_is_out(self):
        for other, kept in ((7, True), (6, False)):
            self.assertIs(keeps(bridge_of([9, other]), boats_of([9, 9], "xy"), [2, 4, 8], [0, 1]), kept)
            self.assertIs(keeps(bridge_of([9, 9]), boats_of([9, other], "xy"), [2, 4, 8], [1, 0]), kept)
        # 15 halves are one more than 7 bears.
        self.assertIs(keeps(bridge_of([9, 7]), boats_of([9, 9], "xy"), [3, 4, 8], [0, 1]), False)

    def test_ahead_and_behind(self):
        load = [5, 5]
        self.assertIs(keeps(bridge_of([5]), boats_of([5], "x"), load, [0]), True)
        self.assertIs(keeps(bridge_of([4]), boats_of([5], "x"), load, [0]), False)
        self.assertIs(keeps(bridge_of([5]), boats_of([4], "x"), load, [0]), False)

    def test_of_spans_nothing_is_asked(self):
        bridge = read_bridge("1 a:90 1 b:90 1")
        self.assertIs(keeps(bridge, boats_of([90, 90]), [20, 30, 40], [0, 1]), True)

    def test_banks_bear_all(self):
        self.assertIs(keeps(bridge_of([10 ** 6]), boats_of([10 ** 6], "x"), [10 ** 6, 10 ** 6], [0]), True)

    def test_no_load(self):
        for row in itertools.permutations(range(3)):
            self.assertIs(keeps(bridge_of([1, 1, 1]), boats_of([1, 1, 1], "xyz"), None, list(row)), True)
            self.assertIs(keeps(bridge_of([1, 1, 1]), boats_of([1, 1, 1], "xyz"), [0] * 4, list(row)), True)
        self.assertIs(keeps(bridge_of([1, 1]), boats_of([1, 1]), None, [0]), False)
        self.assertIs(keeps(bridge_of([1, 1]), boats_of([1, 1]), None, (0, 1)), False)

    def test_arguments_by_names(self):
        told = keeps(thing=[0], load=[1, 1], boats=boats_of([1], "x"), bridge=bridge_of([1]))
        self.assertIs(told, True)

    def test_names_of_old_ones_in_whatever_place(self):
        bridge = bridge_of([5, 5, 5])
        self.assertIs(keeps(bridge, boats_of([5, 5, 5], "bca"), [1, 1, 1, 1], [2, 0, 1]), True)
        self.assertIs(keeps(bridge, bridge.boats(), [1, 1, 1, 1], [0, 1, 2]), True)

    def test_ten_boats(self):
        bridge, new = bridge_of([3] * 10), boats_of([3] * 10, "klmnopqrst")
        self.assertIs(keeps(bridge, new, [2] * 11, list(range(10))), True)
        self.assertIs(keeps(bridge, new, [2] * 11, list(reversed(range(10)))), True)
        self.assertIs(keeps(bridge, new, [2] * 10 + [3], list(range(10))), False)

    def test_all_small_ones(self):
        bearings = list(itertools.product((2, 3), repeat=3))
        for old, new in itertools.product(bearings, bearings):
            bridge, boats = bridge_of(old), boats_of(new, "xyz")
            for load in itertools.product((0, 2, 3), repeat=4):
                for row in itertools.permutations(range(3)):
                    told = keeps(bridge, boats, list(load), list(row))
                    self.assertIs(told, row_keeps(old, new, load, row))


class RowsTest(unittest.TestCase):
    """Things that are no row of the boats' numbers, each once, keep nothing."""

    def kept(self, thing, many=2):
        return keeps(bridge_of([5] * many), boats_of([5] * many), [0] * (many + 1), thing)

    def test_rows(self):
        for many in range(1, 5):
            for row in itertools.permutations(range(many)):
                self.assertIs(self.kept(list(row), many), True)

    def test_no_lists(self):
        for thing in ((0, 1), "01", "[0, 1]", {0: 0, 1: 1}, {0: 1}, None, True, 0, 1, range(2), Boat("a", 5)):
            with self.subTest(thing=thing):
                self.assertIs(self.kept(thing), False)

    def test_other_numbers(self):
        for thing in ([0, 2], [1, 2], [-1, 0], [0, -2], [1, -1], [10 ** 30, 0], [0, None], ["0", "1"], [0, "1"]):
            with self.subTest(thing=thing):
                self.assertIs(self.kept(thing), False)

    def test_twice_the_same(self):
        for thing in ([0, 0], [1, 1], [0, 1, 0], [0, 1, 1], [0, 1, 0, 1]):
            with self.subTest(thing=thing):
                self.assertIs(self.kept(thing), False)

    def test_truths(self):
        for thing in ([False, True], [True, False], [0, True], [False, 1], [True, 0], [1, False]):
            with self.subTest(thing=thing):
                self.assertIs(self.kept(thing), False)
        self.assertIs(self.kept([False], 1), False)

    def test_too_long_or_too_short(self):
        for thing in ([], [0], [1], [0, 1, 2], [2, 1, 0], [0, 1, None], [[0, 1]], [[0], [1]], [0, [1]], [(0, 1)]):
            with self.subTest(thing=thing):
                self.assertIs(self.kept(thing), False)
        self.assertIs(self.kept(list(range(9)), 10), False)
        self.assertIs(self.kept(list(range(200)), 10), False)
        self.assertIs(self.kept([], 1), False)

    def test_anything(self):
        for thing in things():
            with self.subTest(thing=thing):
                self.assertIs(self.kept(thing, 3), False)
                self.assertIs(self.kept([thing, 0], 3), False)
                self.assertIs(self.kept([thing, 1, 2, 3], 3), False)


class StayTest(unittest.TestCase):
    def test_what_is_handed_in_stays(self):
        bridge, boats, load, row = bridge_of([5, 6]), boats_of([7, 8], "xy"), [1, 2, 3], [1, 0]
        self.assertIs(keeps(bridge, boats, load, row), True)
        self.assertEqual(bridge, bridge_of([5, 6]))
        self.assertEqual(boats, boats_of([7, 8], "xy"))
        self.assertEqual((load, row), ([1, 2, 3], [1, 0]))


if __name__ == "__main__":
    unittest.main()
