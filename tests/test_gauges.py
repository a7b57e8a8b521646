"""Promises 15 and 16: how the bridge stands by the gauge; and promise 4 of it."""

import itertools
import unittest

from boatbridge.errors import TooLate
from boatbridge.gauges import Gauge
from boatbridge.stretches import Stretch
from tests.anything import assert_refused

MOST = 10 ** 9


def small():
    return Gauge(lag=2, high=3, top=5, thin=2, thick=4)


def stand_by_hand(readings, minute, lag, high, top, thin, thick):
    """Promise 15 word by word: all that has come, in the order of its coming."""
    come = {"water": 0, "ice": 0}
    for read, kind, number in sorted(readings, key=lambda reading: reading[0]):
        if read + (lag if kind == "water" else 0) <= minute:
            come[kind] = number
    if come["water"] >= top:
        return "lost"
    if come["ice"] >= thick:
        return "shut"
    return "slow" if come["water"] >= high or come["ice"] >= thin else "free"


def spelled(told):
    return [(stretch.first, stretch.behind, stand) for stretch, stand in told]


class StandTest(unittest.TestCase):
    def test_no_readings(self):
        for minute in (0, 1, 60, MOST):
            self.assertEqual(Gauge().stand([], minute), "free")
            self.assertEqual(Gauge(0, 1, 1, 1, 1).stand([], minute), "free")

    def test_bounds_left_out(self):
        for kind, number, told in [
            ("water", 199, "free"), ("water", 200, "slow"), ("water", 399, "slow"), ("water", 400, "lost"),
            ("water", 4095, "lost"), ("ice", 4, "free"), ("ice", 5, "slow"), ("ice", 19, "slow"), ("ice", 20, "shut"),
            ("ice", 4095, "shut"), ("water", 0, "free"), ("ice", 0, "free"),
        ]:
            with self.subTest(kind=kind, number=number):
                self.assertEqual(Gauge().stand([(0, kind, number)], 60), told)

    def test_bounds_on_the_brim_and_one_less(self):
        gauge = small()
        for water, ice, told in [
            (0, 0, "free"), (2, 1, "free"), (3, 0, "slow"), (0, 2, "slow"), (3, 2, "slow"), (4, 3, "slow"),
            (0, 4, "shut"), (4, 4, "shut"), (2, 9, "shut"), (5, 0, "lost"), (5, 4, "lost"), (9, 9, "lost"),
            (5, 3, "lost"),
        ]:
            with self.subTest(water=water, ice=ice):
                self.assertEqual(gauge.stand([(0, "water", water), (2, "ice", ice)], 2), told)

    def test_bounds_by_their_names(self):
        self.assertEqual(Gauge(top=5, high=3, lag=0).stand([(0, "water", 4)], 0), "slow")
        self.assertEqual(Gauge(thick=4, thin=4).stand([(0, "ice", 4)], 0), "shut")
        self.assertEqual(Gauge(thick=4, thin=4).stand([(0, "ice", 3)], 0), "free")
        self.assertEqual(Gauge(thin=1).stand([(0, "ice", 1)], 0), "slow")
        self.assertEqual(Gauge(high=1).stand([(0, "water", 1)], 60), "slow")
        self.assertEqual(Gauge(top=201).stand([(0, "water", 201)], 60), "lost")
        self.assertEqual(Gauge(7, 30, 50, 20, 40).stand(minute=7, readings=[(0, "water", 30), (0, "ice", 19)]), "slow")

    def test_high_the_same_as_top_and_thin_the_same_as_thick(self):
        gauge = Gauge(0, 5, 5, 4, 4)
        for water, ice, told in [(4, 3, "free"), (5, 3, "lost"), (4, 4, "shut"), (5, 4, "lost"), (4, 0, "free")]:
            self.assertEqual(gauge.stand([(0, "water", water), (0, "ice", ice)], 0), told)

    def test_water_comes_behind_its_lag_and_ice_at_once(self):
        for lag in (0, 1, 60, 1440):
            gauge = Gauge(lag)
            water, ice = [(100, "water", 400)], [(100, "ice", 20)]
            self.assertEqual(gauge.stand(water, 99 + lag), "free")
            self.assertEqual(gauge.stand(water, 100 + lag), "lost")
            self.assertEqual(gauge.stand(water, 101 + lag), "lost")
            self.assertEqual(gauge.stand(water, MOST), "lost")
            self.assertEqual(gauge.stand(ice, 99), "free")
            self.assertEqual(gauge.stand(ice, 100), "shut")
            self.assertEqual(gauge.stand(ice, MOST), "shut")
        self.assertEqual(Gauge().stand([(100, "water", 400)], 159), "free")
        self.assertEqual(Gauge().stand([(100, "water", 400)], 160), "lost")

    def test_the_last_reading_counts_in_any_order_of_the_list(self):
        some = [(0, "water", 5), (1, "water", 0), (3, "water", 3), (1, "ice", 4), (2, "ice", 2), (5, "ice", 0)]
        for readings in itertools.permutations(some):
            told = [small().stand(list(readings), minute) for minute in range(7)]
            self.assertEqual(told, ["free", "shut", "lost", "slow", "slow", "slow", "slow"])

    def test_a_reading_later_read_and_less_takes_the_place_of_one_ahead(self):
        gauge = small()
        self.assertEqual(gauge.stand([(0, "water", 9), (1, "water", 0)], 2), "lost")
        self.assertEqual(gauge.stand([(0, "water", 9), (1, "water", 0)], 3), "free")

    def test_of_one_minute_the_later_one_in_the_list(self):
        gauge = small()
        for kind, more, told in (("water", 5, "lost"), ("ice", 4, "shut")):
            for rest in range(3):
                self.assertEqual(gauge.stand([(4, kind, 0), (4, kind, more)], 6 + rest), told)
                self.assertEqual(gauge.stand([(4, kind, more), (4, kind, 0)], 6 + rest), "free")
                self.assertEqual(gauge.stand([(4, kind, more), (2, kind, 1), (4, kind, 0)], 6 + rest), "free")
                self.assertEqual(gauge.stand([(4, kind, 0), (4, kind, more), (3, kind, 0)], 6 + rest), told)
        self.assertEqual(gauge.stand([(0, "water", 5), (0, "water", 0)], 2), "free")
        self.assertEqual(gauge.stand([(0, "ice", 0), (0, "ice", 4)], 0), "shut")

    def test_of_one_minute_water_and_ice_are_apart(self):
        self.assertEqual(small().stand([(4, "water", 5), (4, "ice", 0)], 6), "lost")
        self.assertEqual(small().stand([(4, "ice", 4), (4, "water", 0)], 6), "shut")

    def test_all_small_ones(self):
        bounds = {"lag": 2, "high": 1, "top": 2, "thin": 1, "thick": 2}
        some = [(minute, kind, number) for minute in (0, 1) for kind in ("water", "ice") for number in range(3)]
        for readings in itertools.product(some, repeat=3):
            for minute in range(5):
                told = Gauge(**bounds).stand(list(readings), minute)
                self.assertEqual(told, stand_by_hand(readings, minute, **bounds))


class StandsTest(unittest.TestCase):
    def test_no_readings(self):
        self.assertEqual(Gauge().stands([], Stretch(5, 9)), [(Stretch(5, 9), "free")])
        self.assertEqual(Gauge().stands([], Stretch(0, MOST)), [(Stretch(0, MOST), "free")])
        self.assertEqual(Gauge().stands(within=Stretch(5), readings=[]), [(Stretch(5, 6), "free")])

    def test_an_empty_stretch(self):
        for minute in (0, 2, 5, MOST):
            self.assertEqual(small().stands([], Stretch(minute, minute)), [])
            self.assertEqual(small().stands([(minute, "ice", 4), (0, "water", 5)], Stretch(minute, minute)), [])

    def test_ordinary(self):
        readings = [(425, "water", 250), (500, "ice", 20), (480, "water", 400), (600, "water", 0), (700, "ice", 4)]
        told = Gauge().stands(readings, Stretch(400, 800))
        self.assertEqual(told, [
            (Stretch(400, 485), "free"), (Stretch(485, 500), "slow"), (Stretch(500, 540), "shut"),
            (Stretch(540, 660), "lost"), (Stretch(660, 700), "shut"), (Stretch(700, 800), "free"),
        ])
        self.assertIs(type(told), list)
        self.assertEqual([type(row) for row in told], [tuple] * 6)

    def test_within_alone(self):
        readings = [(0, "water", 5), (10, "water", 0), (20, "ice", 4)]
        gauge = small()
        self.assertEqual(spelled(gauge.stands(readings, Stretch(0, 2))), [(0, 2, "free")])
        self.assertEqual(spelled(gauge.stands(readings, Stretch(2, 12))), [(2, 12, "lost")])
        self.assertEqual(
            spelled(gauge.stands(readings, Stretch(1, 13))), [(1, 2, "free"), (2, 12, "lost"), (12, 13, "free")])
        self.assertEqual(spelled(gauge.stands(readings, Stretch(5, 6))), [(5, 6, "lost")])
        self.assertEqual(spelled(gauge.stands(readings, Stretch(19, 21))), [(19, 20, "free"), (20, 21, "shut")])
        self.assertEqual(spelled(gauge.stands(readings, Stretch(30, 90))), [(30, 90, "shut")])

    def test_none_like_the_one_ahead(self):
        readings = [(0, "ice", 2), (3, "ice", 3), (3, "water", 3), (7, "ice", 0), (9, "water", 4), (20, "water", 2)]
        self.assertEqual(spelled(small().stands(readings, Stretch(0, 30))), [(0, 22, "slow"), (22, 30, "free")])

    def test_water_and_ice_that_change_at_one_minute(self):
        readings = [(3, "water", 5), (5, "ice", 4), (8, "water", 0), (10, "ice", 0)]
        self.assertEqual(
            spelled(small().stands(readings, Stretch(0, 20))), [(0, 5, "free"), (5, 10, "lost"), (10, 20, "free")])

    def test_of_one_minute_the_later_one_in_the_list(self):
        readings = [(3, "ice", 4), (3, "ice", 2), (3, "ice", 0)]
        self.assertEqual(spelled(small().stands(readings, Stretch(0, 9))), [(0, 9, "free")])
        self.assertEqual(spelled(small().stands(readings[::-1], Stretch(0, 9))), [(0, 3, "free"), (3, 9, "shut")])

    def test_as_long_as_can_be(self):
        readings = [(5000000 * k, ("water", "ice")[k % 2], 400 * (k // 2 % 2)) for k in range(200)]
        told = Gauge().stands(readings, Stretch(0, MOST))
        self.assertEqual((told[0][0].first, told[-1][0].behind), (0, MOST))
        for k, (stretch, stand) in enumerate(told):
            self.assertGreater(len(stretch), 0)
            self.assertEqual(stand, Gauge().stand(readings, stretch.first))
            self.assertEqual(stand, Gauge().stand(readings, stretch.behind - 1))
            if k > 0:
                self.assertEqual(stretch.first, told[k - 1][0].behind)
                self.assertNotEqual(stand, told[k - 1][1])
        self.assertGreater(len(told), 90)

    def test_all_small_ones_minute_by_minute(self):
        bounds = {"lag": 2, "high": 1, "top": 2, "thin": 1, "thick": 2}
        some = [(minute, kind, number) for minute in (0, 1, 3) for kind in ("water", "ice") for number in (0, 2)]
        for readings in itertools.product(some, repeat=3):
            for within in (Stretch(0, 7), Stretch(2, 4)):
                told = Gauge(**bounds).stands(list(readings), within)
                minutes = [stand for stretch, stand in told for minute in range(stretch.first, stretch.behind)]
                hand = [stand_by_hand(readings, minute, **bounds) for minute in range(within.first, within.behind)]
                self.assertEqual(minutes, hand)
                self.assertEqual(len(told), len(list(itertools.groupby(hand))))
                self.assertEqual(
                    [stretch.first for stretch, stand in told][1:], [stretch.behind for stretch, stand in told][:-1])


class LastCallTest(unittest.TestCase):
    def assert_too_late(self, gauge, minute, *asked, **named):
        assert_refused(self, TooLate, {"minute": minute}, gauge.last_call, *asked, **named)

    def test_none(self):
        self.assertIsNone(Gauge().last_call([], 0))
        self.assertIsNone(Gauge().last_call([(0, "water", 399), (0, "ice", 4095)], 0))
        self.assertIsNone(Gauge().last_call([(5, "water", 4095)], 4, 0))
        self.assertIsNone(Gauge().last_call([], MOST, MOST))

    def test_lost_once_and_over_ahead_of_now(self):
        readings = [(0, "water", 400), (100, "water", 0)]
        self.assertIsNone(Gauge().last_call(readings, 160, 0))
        self.assertEqual(Gauge().last_call(readings, 159, 0), 159)
        self.assertEqual(Gauge().last_call(readings, 99, 0), 99)

    def test_ordinary(self):
        gauge = Gauge(lag=600)
        readings = [(425, "water", 250), (480, "water", 400)]
        self.assertEqual(gauge.last_call(readings, 480), 960)
        self.assertEqual(gauge.last_call(readings, 480, 100), 980)
        self.assertEqual(gauge.last_call(long=1, now=500, readings=readings), 1079)
        self.assertEqual(gauge.last_call(readings, 960), 960)

    def test_the_call_at_now_and_one_less(self):
        gauge, readings = Gauge(lag=100), [(50, "water", 400)]
        self.assertEqual(gauge.last_call(readings, 50, 100), 50)
        self.assert_too_late(gauge, 150, readings, 50, 101)
        self.assertEqual(gauge.last_call(readings, 51, 99), 51)
        self.assert_too_late(gauge, 150, readings, 51, 100)
        self.assert_too_late(gauge, 150, readings=readings, now=52, long=99)
        self.assert_too_late(gauge, 150, readings, 149, 2)

    def test_long_left_out_is_120(self):
        readings = [(1000, "water", 400)]
        self.assertEqual(Gauge(lag=120).last_call(readings, 1000), 1000)
        self.assert_too_late(Gauge(lag=119), 1119, readings, 1000)
        self.assertEqual(Gauge(lag=1440).last_call(readings, 1000), 2320)

    def test_long_0(self):
        self.assertEqual(Gauge(lag=0).last_call([(7, "water", 400)], 7, 0), 7)
        self.assertEqual(Gauge(lag=5).last_call([(7, "water", 400)], 7, 0), 12)
        self.assertEqual(Gauge(lag=5).last_call([(7, "water", 400)], MOST, 0), MOST)

    def test_long_as_long_as_can_be(self):
        self.assert_too_late(Gauge(), 60, [(0, "water", 400)], 0, MOST)
        self.assert_too_late(Gauge(), MOST, [(0, "water", 400)], MOST, MOST)
        self.assertIsNone(Gauge().last_call([(0, "water", 399)], 0, MOST))

    def test_lost_at_now_already(self):
        gauge, readings = small(), [(0, "water", 5)]
        self.assertEqual(gauge.last_call(readings, 2, 0), 2)
        self.assertEqual(gauge.last_call(readings, 90, 0), 90)
        self.assert_too_late(gauge, 90, readings, 90, 1)
        self.assert_too_late(gauge, 90, readings, 90)

    def test_lost_at_now_is_ahead_of_what_comes(self):
        readings = [(0, "water", 5), (9, "water", 0), (10, "water", 5)]
        self.assert_too_late(small(), 10, readings, 10, 1)
        self.assertEqual(small().last_call(readings, 11, 1), 11)
        self.assertEqual(small().last_call(readings, 11, 0), 12)

    def test_readings_later_than_now_do_not_count(self):
        gauge = Gauge(lag=50)
        readings = [(10, "water", 400), (11, "water", 0), (12, "water", 500)]
        self.assertIsNone(gauge.last_call(readings, 9, 0))
        self.assertEqual(gauge.last_call(readings, 10, 0), 60)
        self.assertEqual(gauge.last_call(readings, 11, 0), 60)
        self.assertEqual(gauge.last_call(readings, 12, 0), 60)
        # The one of 11 is later, and takes nothing back of what came at 60.
        self.assertEqual(gauge.last_call(readings, 61, 0), 62)

    def test_readings_of_one_minute_that_take_it_back(self):
        gauge = Gauge(lag=50)
        self.assertIsNone(gauge.last_call([(10, "water", 400), (10, "water", 0)], 10, 0))
        self.assertEqual(gauge.last_call([(10, "water", 0), (10, "water", 400)], 10, 0), 60)

    def test_the_first_of_several_in_any_order(self):
        some = [(30, "water", 500), (10, "water", 100), (20, "water", 450), (40, "water", 4095), (25, "ice", 99)]
        for readings in itertools.permutations(some):
            self.assertEqual(Gauge(lag=100).last_call(list(readings), 40, 5), 115)

    def test_ice_loses_nothing(self):
        self.assertIsNone(small().last_call([(0, "ice", 4095), (0, "water", 4)], 0, 0))

    def test_all_small_ones_minute_by_minute(self):
        bounds = {"lag": 2, "high": 1, "top": 2, "thin": 1, "thick": 2}
        gauge = Gauge(**bounds)
        some = [(minute, kind, number) for minute in (0, 1, 3) for kind, number in
                (("water", 0), ("water", 2), ("ice", 2))]
        for readings in itertools.product(some, repeat=3):
            for now in range(6):
                known = [reading for reading in readings if reading[0] <= now]
                lost = [m for m in range(now, now + 9) if stand_by_hand(known, m, **bounds) == "lost"]
                for long in (0, 1, 2, 3):
                    if not lost:
                        self.assertIsNone(gauge.last_call(list(readings), now, long))
                    elif lost[0] - long >= now:
                        self.assertEqual(gauge.last_call(list(readings), now, long), lost[0] - long)
                    else:
                        with self.assertRaises(TooLate) as caught:
                            gauge.last_call(list(readings), now, long)
                        self.assertEqual(caught.exception.minute, lost[0])


class StayTest(unittest.TestCase):
    """Promise 2: what is handed in stays, what is told is the asker's own."""

    def test_readings_stay_and_stands_are_new(self):
        gauge, readings = small(), [(9, "water", 5), (3, "ice", 4), (9, "water", 0), (1, "ice", 0)]
        kept = list(readings)
        told = gauge.stands(readings, Stretch(0, 20))
        before = list(told)
        told.clear()
        self.assertEqual(gauge.stands(readings, Stretch(0, 20)), before)
        gauge.stand(readings, 5)
        gauge.last_call(readings, 9)
        self.assertEqual(readings, kept)
        told = gauge.stands(readings, Stretch(0, 20))
        readings.clear()
        self.assertEqual(told, before)

    def test_one_gauge_is_asked_of_many_readings(self):
        gauge = small()
        self.assertEqual(gauge.stand([(0, "ice", 4)], 0), "shut")
        self.assertEqual(gauge.stand([], 0), "free")
        self.assertIsNone(gauge.last_call([], 0))


class PromiseTest(unittest.TestCase):
    """Promise 4: what was read tells each stand ahead, and the last minute to take the bridge up."""

    def test_the_bridge_is_up_when_it_would_be_lost(self):
        gauge = Gauge(lag=300)
        readings = [(k * 20, "water", 30 * k) for k in range(30)]
        called = None
        for now in range(0, 700, 10):
            call = gauge.last_call(readings, now)
            if call is not None and call - now < 10:
                called = call
                break
        lost = [stretch for stretch, stand in gauge.stands(readings, Stretch(0, 2000)) if stand == "lost"][0]
        self.assertEqual(called + 120, lost.first)
        self.assertEqual(gauge.stand(readings, lost.first - 1), "slow")


if __name__ == "__main__":
    unittest.main()
