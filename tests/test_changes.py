"""Promise 13: the first row that keeps the load, or why there is none; and promise 4 of it."""

import itertools
import unittest

from boatbridge.boats import Boat
from boatbridge.bridges import Bridge, read_bridge
from boatbridge.changelooks import keeps
from boatbridge.changes import change_order
from boatbridge.errors import NoChange, Overload
from boatbridge.loads import is_borne
from tests.anything import assert_refused
from tests.rows import first_row, no_change


def boats_of(bears, letters="klmnopqrst"):
    return [Boat(letters[k], one) for k, one in enumerate(bears)]


def bridge_of(bears, spans=None):
    return Bridge(boats_of(bears, "abcdefghij"), spans or [10 ** 6] * (len(bears) + 1))


class ChangeCase(unittest.TestCase):
    def assert_overload(self, bridge, boats, load, part, at, over):
        assert_refused(
            self, Overload, {"part": part, "at": at, "over": over}, change_order, bridge, boats, load)

    def assert_no_change(self, bridge, boats, load, one, other):
        assert_refused(self, NoChange, {"one": one, "other": other}, change_order, bridge, boats, load)


class OrderTest(ChangeCase):
    def test_rising_where_nothing_hinders(self):
        for many in range(1, 11):
            told = change_order(bridge_of([9] * many), boats_of([9] * many), [1] * (many + 1))
            self.assertEqual(told, list(range(many)))
            self.assertIs(type(told), list)

    def test_load_left_out_or_none(self):
        bridge, new = bridge_of([1, 1, 1]), boats_of([1, 1, 1])
        self.assertEqual(change_order(bridge, new), [0, 1, 2])
        self.assertEqual(change_order(bridge, new, None), [0, 1, 2])
        self.assertEqual(change_order(boats=new, bridge=bridge, load=None), [0, 1, 2])
        self.assertEqual(change_order(bridge, new, [0, 0, 0, 0]), [0, 1, 2])

    def test_by_names(self):
        self.assertEqual(change_order(load=[2, 2, 2], boats=boats_of([3, 3]), bridge=bridge_of([3, 2])), [1, 0])

    def test_the_stronger_new_one_goes_first(self):
        # While boat 0 is out, boat 1 bears 6 halves: 3 bear them, 2 don't.
        self.assertEqual(change_order(bridge_of([3, 2]), boats_of([3, 3]), [2, 2, 2]), [1, 0])
        self.assertEqual(change_order(bridge_of([3, 3]), boats_of([3, 2]), [2, 2, 2]), [0, 1])
        self.assertEqual(change_order(bridge_of([3, 3]), boats_of([2, 3]), [2, 2, 2]), [1, 0])
        self.assertEqual(change_order(bridge_of([2, 3]), boats_of([3, 3]), [2, 2, 2]), [0, 1])

    def test_the_first_row_is_no_row_sorted_by_needs(self):
        # Boat 3 has to go ahead of 2, and 0 and 1 don't wait for it.
        told = change_order(bridge_of([9, 9, 9, 2]), boats_of([9, 9, 9, 3]), [0, 0, 2, 2, 2])
        self.assertEqual(told, [0, 1, 3, 2])
        # Boat 1 has to go ahead of 0, and then 0 goes at once.
        told = change_order(bridge_of([9, 2, 9, 9]), boats_of([9, 3, 9, 9]), [2, 2, 2, 0, 0])
        self.assertEqual(told, [1, 0, 2, 3])

    def test_ten_boats_from_either_end_on(self):
        # What lies on three spans bears on both boats of a pair while one is out: the old one of
        # this number bears it, the next one doesn't.
        load = [22 - 2 * k for k in range(11)]
        weak = [30 - 3 * k for k in range(10)]
        self.assertEqual(change_order(bridge_of(weak), boats_of([99] * 10), load), list(range(9, -1, -1)))
        self.assertEqual(change_order(bridge_of([99] * 10), boats_of(weak), load), list(range(10)))
        self.assertEqual(change_order(bridge_of([99] * 10), boats_of(weak[::-1]), load[::-1]), list(range(9, -1, -1)))

    def test_ten_boats_each_behind_the_next_one(self):
        # The old ones bear 4 halves, and 6 lie on a neighbour: only the new one bears them.
        load = [2] * 11
        old = bridge_of([3] + [2] * 9)
        self.assert_no_change(old, boats_of([3] * 10), load, 1, 2)
        self.assertEqual(change_order(bridge_of([3] * 9 + [2]), boats_of([3] * 10), load), [*range(8), 9, 8])
        for weak in range(10):
            bears = [3] * 10
            bears[weak] = 2
            row = [at for at in range(10) if at != weak]
            row.insert(row.index(max(weak - 1, 1 if weak == 0 else 0)), weak)
            self.assertEqual(change_order(bridge_of(bears), boats_of([3] * 10), load), row)

    def test_all_bearings_against_all_rows(self):
        bearings = list(itertools.product((2, 3), repeat=3))
        for old, new in itertools.product(bearings, bearings):
            for load in itertools.product((0, 1, 2, 3), repeat=4):
                self.assert_as_by_rows(old, new, list(load))

    def test_four_and_five_boats_against_all_rows(self):
        for old, new, load in [
            ((4, 3, 4, 3), (3, 4, 3, 4), (2, 2, 2, 2, 2)),
            ((4, 3, 4, 3), (4, 4, 4, 3), (2, 2, 2, 2, 2)),
            ((3, 2, 3, 3), (3, 3, 3, 2), (2, 2, 2, 2, 2)),
            ((3, 3, 3, 2, 3), (2, 3, 3, 3, 3), (2, 2, 2, 2, 2, 2)),
            ((3, 2, 3, 3, 2), (3, 3, 3, 3, 3), (2, 2, 2, 2, 2, 2)),
            ((3, 2, 3, 3, 2), (3, 3, 3, 2, 3), (2, 2, 2, 2, 2, 2)),
            ((9, 1, 9, 1, 9), (9, 9, 9, 9, 9), (1, 1, 1, 1, 1, 1)),
            ((2, 9, 2, 9, 2), (9, 2, 9, 2, 9), (1, 2, 2, 1, 2, 2)),
        ]:
            with self.subTest(old=old, new=new):
                self.assert_as_by_rows(old, new, list(load))

    def assert_as_by_rows(self, old, new, load):
        bridge, boats = bridge_of(old), boats_of(new)
        if not is_borne(bridge, load) or not is_borne(bridge_of(new), load):
            self.assertRaises(Overload, change_order, bridge, boats, load)
            return
        row = first_row(old, new, load)
        if row is None:
            self.assert_no_change(bridge, boats, load, *no_change(old, new, load))
        else:
            self.assertEqual(change_order(bridge, boats, load), row)
            self.assertIs(keeps(bridge, boats, load, row), True)

    def test_names_of_old_ones_in_whatever_place(self):
        bridge = bridge_of([3, 2, 3])
        for letters in ("abc", "bca", "cab", "xay"):
            self.assertEqual(change_order(bridge, boats_of([3, 3, 3], letters), [2, 2, 2, 0]), [1, 0, 2])


class OverloadTest(ChangeCase):
    def test_of_the_old_bridge(self):
        bridge = bridge_of([5, 5], [10, 10, 10])
        self.assert_overload(bridge, boats_of([9, 9]), [11, 0, 0], "span", 0, 1)
        self.assert_overload(bridge, boats_of([9, 9]), [10, 1, 0], "boat", 0, 1)
        self.assert_overload(bridge, boats_of([9, 9]), [0, 4, 9], "boat", 1, 3)

    def test_of_the_new_bridge(self):
        bridge = bridge_of([9, 9], [10, 10, 10])
        self.assert_overload(bridge, boats_of([5, 5]), [10, 1, 0], "boat", 0, 1)
        self.assert_overload(bridge, boats_of([9, 5]), [0, 4, 9], "boat", 1, 3)

    def test_the_old_one_goes_first(self):
        bridge = bridge_of([9, 5], [10, 10, 10])
        self.assert_overload(bridge, boats_of([1, 9]), [4, 4, 9], "boat", 1, 3)
        self.assert_overload(bridge, boats_of([1, 1]), [4, 4, 11], "span", 2, 1)

    def test_ahead_of_no_change(self):
        load = [2, 2, 2]
        self.assert_no_change(bridge_of([2, 2]), boats_of([2, 2]), load, 0, None)
        self.assert_overload(bridge_of([2, 2]), boats_of([2, 1]), load, "boat", 1, 2)
        self.assert_overload(bridge_of([1, 2]), boats_of([2, 2]), load, "boat", 0, 2)
        self.assert_overload(bridge_of([2, 2], [2, 1, 2]), boats_of([2, 2]), load, "span", 1, 1)

    def test_one_boat(self):
        self.assertEqual(change_order(bridge_of([5]), boats_of([5]), [5, 5]), [0])
        self.assert_overload(bridge_of([5]), boats_of([4]), [5, 5], "boat", 0, 2)
        self.assert_overload(bridge_of([4]), boats_of([3]), [5, 5], "boat", 0, 2)


class NoChangeTest(ChangeCase):
    def test_a_neighbour_that_bears_too_little_old_and_new(self):
        # Boat 1 out: boats 0 and 2 bear 6 halves each.
        load = [2, 2, 2, 2]
        self.assert_no_change(bridge_of([2, 9, 9]), boats_of([2, 9, 9]), load, 1, None)
        self.assert_no_change(bridge_of([9, 9, 2]), boats_of([9, 9, 2]), load, 1, None)
        self.assert_no_change(bridge_of([9, 2, 9]), boats_of([9, 2, 9]), load, 0, None)
        self.assert_no_change(bridge_of([2, 2, 2]), boats_of([2, 2, 2]), load, 0, None)

    def test_two_that_have_to_go_ahead_of_each_other(self):
        # While the one is out, only the other new one bears 6 halves; or only the other old one.
        self.assert_no_change(bridge_of([2, 2]), boats_of([3, 3]), [2, 2, 2], 0, 1)
        self.assert_no_change(bridge_of([3, 3]), boats_of([2, 2]), [2, 2, 2], 0, 1)
        self.assert_no_change(bridge_of([9, 2, 2]), boats_of([9, 3, 3]), [0, 2, 2, 2], 1, 2)
        self.assert_no_change(bridge_of([2, 2, 2]), boats_of([3, 3, 3]), [2, 2, 2, 2], 0, 1)

    def test_one_and_none_ahead_of_one_and_other(self):
        # Boats 0 and 1 each ask for the other one ahead; boat 3 can't go out at all.
        self.assert_no_change(
            bridge_of([2, 2, 9, 9, 2]), boats_of([3, 3, 9, 9, 2]), [2, 2, 2, 2, 2, 2], 3, None)

    def test_all_refused_alike_when_asked_again(self):
        bridge, boats, load = bridge_of([2, 2]), boats_of([3, 3]), [2, 2, 2]
        for _ in range(2):
            self.assert_no_change(bridge, boats, load, 0, 1)
        self.assertEqual((bridge, boats, load), (bridge_of([2, 2]), boats_of([3, 3]), [2, 2, 2]))


class StayTest(ChangeCase):
    def test_what_is_handed_in_stays_and_what_is_told_is_new(self):
        bridge, boats, load = read_bridge("9 a:3 9 b:2 9"), boats_of([3, 3]), [2, 2, 2]
        told = change_order(bridge, boats, load)
        told.clear()
        self.assertEqual(change_order(bridge, boats, load), [1, 0])
        self.assertEqual(bridge, read_bridge("9 a:3 9 b:2 9"))
        self.assertEqual((boats, load), (boats_of([3, 3]), [2, 2, 2]))


class PromiseTest(ChangeCase):
    """Promise 4: changed in the told order the bridge is whole all the way, by with_boat as by keeps."""

    def test_whole_all_the_way(self):
        bridge, new, load = bridge_of([3, 2, 3, 2, 3]), boats_of([3, 3, 3, 3, 3]), [2, 2, 2, 0, 2, 2]
        row = change_order(bridge, new, load)
        self.assertIs(keeps(bridge, new, load, row), True)
        for out in row:
            self.assertIs(is_borne(bridge, load), True)
            bridge = bridge.with_boat(out, new[out])
        self.assertIs(is_borne(bridge, load), True)
        self.assertEqual(bridge.boats(), new)


if __name__ == "__main__":
    unittest.main()
