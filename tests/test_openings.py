"""Promises 20 and 21: openings at the least price; and promise 4 of them."""

import itertools
import random
import unittest

from boatbridge.hours import Both, Days, Hours, Unless
from boatbridge.openings import openings
from boatbridge.openlooks import bars_less, is_plan, plan_price
from boatbridge.stretches import Stretch
from tests.plans import bars_by_hand, is_plan_by_hand, least_by_hand
from tests.somerules import ALL, DAY, MORNING, NEVER, NIGHT, TUESDAYS, WEEK, random_rule

NAMES = ["anna", "berta", "carla", "dora", "emma", "frida", "gerda", "hanna", "ida", "jana"]


def some_ships(chance, many, within):
    names = chance.sample(NAMES, many)
    return [(name, chance.randrange(within), chance.choice([1, 2, 10, 60, chance.randint(1, 60)])) for name in names]


class OpeningsCase(unittest.TestCase):
    def assert_told(self, ships, **named):
        """What is told is of the right kinds, agrees with itself, and stands before both looks."""
        kept = list(ships)
        worth, plan, paper = told = openings(ships, **named)
        self.assertEqual(ships, kept)
        self.assertIs(type(told), tuple)
        self.assertIs(type(paper), list)
        for row in paper:
            self.assertIs(type(row), tuple)
            self.assertTrue(all(number is None or type(number) is int for number in row))
        free = {name: thing for name, thing in named.items() if name != "price"}
        if worth is None:
            self.assertIsNone(plan)
        else:
            self.assertIs(type(worth), int)
            self.assertIs(type(plan), list)
            self.assertIs(is_plan(ships, plan, **free), True)
            self.assertTrue(is_plan_by_hand(ships, plan, **free))
            self.assertEqual(plan_price(ships, plan, named.get("price", 0)), worth)
            self.assertIs(bars_less(ships, worth + 1, paper, **named), False)
        self.assertIs(bars_less(ships, worth, paper, **named), True)
        return worth, plan, paper


class SmallTest(OpeningsCase):
    def test_no_ships(self):
        for rule in (None, ALL, NEVER, MORNING):
            self.assertEqual(self.assert_told([], rule=rule, price=7), (0, [], [(0, 0, 0)]))

    def test_one_ship(self):
        worth, plan, _ = self.assert_told([("anna", 100, 10)])
        self.assertEqual((worth, plan), (0, [(Stretch(100, 120), ("anna",))]))
        worth, plan, _ = self.assert_told([("anna", 0, 1)], out=1, price=10 ** 6)
        self.assertEqual((worth, plan), (10 ** 6, [(Stretch(0, 3), ("anna",))]))
        worth, plan, _ = self.assert_told([("anna", 10 ** 9, 60)], out=60, gap=10 ** 6)
        self.assertEqual((worth, plan), (0, [(Stretch(10 ** 9, 10 ** 9 + 180), ("anna",))]))

    def test_one_ship_and_a_rule(self):
        for comes, first in [(0, 480), (480, 480), (610, 610), (611, DAY + 480), (700, DAY + 480)]:
            worth, plan, _ = self.assert_told([("anna", comes, 10)], rule=MORNING)
            self.assertEqual((worth, plan), (first - comes, [(Stretch(first, first + 20), ("anna",))]))

    def test_a_rule_that_never_allows_so_much(self):
        for ships in ([("anna", 5, 10)], [("anna", 5, 10), ("berta", 6, 1)]):
            for rule in (NEVER, Hours(480, 499), Both((MORNING, NIGHT))):
                worth, plan, paper = self.assert_told(ships, rule=rule)
                self.assertEqual((worth, plan), (None, None))
                self.assertIn((0, 0, None), paper)

    def test_a_rule_that_allows_some_ships_and_never_one_of_them(self):
        ships = [("anna", 5, 9), ("berta", 6, 10), ("carla", 7, 9)]
        worth, plan, _ = self.assert_told(ships, rule=Hours(480, 499))
        self.assertEqual((worth, plan), (None, None))
        worth, plan, _ = self.assert_told(ships, rule=Hours(480, 500))
        self.assertEqual([stretch.first for stretch, _ in plan], [480, DAY + 480, 2 * DAY + 480])
        self.assertEqual(worth, 475 + DAY + 474 + 2 * DAY + 473)

    def test_two_apart_and_two_together(self):
        ships = [("anna", 0, 10), ("berta", 5, 10)]
        # Apart, berta waits until 50; together anna waits until 5.
        self.assertEqual(self.assert_told(ships)[:2], (5, [(Stretch(5, 35), ("anna", "berta"))]))
        ships = [("anna", 0, 10), ("berta", 50, 10)]
        apart = [(Stretch(0, 20), ("anna",)), (Stretch(50, 70), ("berta",))]
        self.assertEqual(self.assert_told(ships)[:2], (0, apart))
        self.assertEqual(self.assert_told(ships, price=49)[:2], (98, apart))
        self.assertEqual(self.assert_told(ships, price=51)[:2], (101, [(Stretch(50, 80), ("anna", "berta"))]))
        self.assertEqual(self.assert_told(ships, price=50)[0], 100)

    def test_gap(self):
        ships = [("anna", 0, 10), ("berta", 50, 10)]
        self.assertEqual(self.assert_told(ships, gap=30)[0], 0)
        self.assertEqual(self.assert_told(ships, gap=31)[:2], (1, [
            (Stretch(0, 20), ("anna",)), (Stretch(51, 71), ("berta",)),
        ]))
        self.assertEqual(self.assert_told(ships, gap=79)[0], 49)
        self.assertEqual(self.assert_told(ships, gap=10 ** 6)[:2], (50, [(Stretch(50, 80), ("anna", "berta"))]))
        side_by_side = [("anna", 0, 10), ("berta", 20, 10)]
        self.assertEqual(self.assert_told(side_by_side, gap=0)[0], 0)

    def test_ships_of_one_minute_go_by_names(self):
        for ships in itertools.permutations([("carla", 7, 1), ("anna", 7, 60), ("berta", 7, 2)]):
            worth, plan, _ = self.assert_told(list(ships), price=10 ** 6)
            self.assertEqual(plan, [(Stretch(7, 80), ("anna", "berta", "carla"))])
            self.assertEqual(worth, 10 ** 6)

    def test_any_order_of_the_list(self):
        ships = [("dora", 0, 5), ("carla", 9, 5), ("berta", 9, 7), ("anna", 300, 9)]
        told = [openings(list(row), MORNING, 2, 3, 4) for row in itertools.permutations(ships)]
        for one in told:
            self.assertEqual(one, told[0])

    def test_arguments_by_places_by_names_and_left_out(self):
        ships = [("anna", 0, 10), ("berta", 50, 10)]
        self.assertEqual(openings(ships), openings(ships, None, 5, 30, 0))
        self.assertEqual(
            openings(price=3, gap=40, out=7, rule=MORNING, ships=ships), openings(ships, MORNING, 7, 40, 3))

    def test_each_option_counts(self):
        ships = [("anna", 0, 10), ("berta", 49, 10)]
        self.assertEqual(openings(ships)[0], 1)
        self.assertEqual(openings(ships, rule=Unless(Hours(0, 1)))[0], 3)
        self.assertEqual(openings(ships, out=6)[0], 3)
        self.assertEqual(openings(ships, gap=32)[0], 3)
        self.assertEqual(openings(ships, price=1)[0], 3)

    def test_what_is_told_is_the_askers_own(self):
        ships = [("anna", 0, 10), ("berta", 50, 10)]
        worth, plan, paper = openings(ships)
        before = (worth, list(plan), list(paper))
        plan.clear()
        paper.append((9, 9, 9))
        self.assertEqual(openings(ships), before)


class ByHandTest(OpeningsCase):
    def test_all_small_ones_without_a_rule(self):
        for comes in itertools.product((0, 1, 4), repeat=3):
            for longs in [(1, 1, 1), (1, 3, 2), (5, 1, 4)]:
                ships = list(zip(("berta", "anna", "carla"), comes, longs, strict=True))
                for out, gap, price in [(1, 0, 0), (1, 0, 3), (1, 5, 0), (2, 1, 1), (1, 2, 9)]:
                    with self.subTest(ships=ships, out=out, gap=gap, price=price):
                        worth = self.assert_told(ships, out=out, gap=gap, price=price)[0]
                        self.assertEqual(worth, least_by_hand(ships, None, out, gap, price))

    def test_any_ships_and_rules(self):
        chance = random.Random(20)
        rules = [None, ALL, MORNING, NIGHT, TUESDAYS, Hours(1430, 20), Unless(Hours(600, 601))]
        for _ in range(60):
            rule = chance.choice([*rules, random_rule(chance, 4)])
            ships = some_ships(chance, chance.randint(1, 4), chance.choice([3, 60, 2000]))
            named = {
                "rule": rule, "out": chance.choice([1, 5, 60]), "gap": chance.choice([0, 1, 30, 500]),
                "price": chance.choice([0, 1, 40, 1000]),
            }
            with self.subTest(ships=ships, rule=str(rule), named=named):
                worth, _, paper = self.assert_told(ships, **named)
                self.assertEqual(worth, least_by_hand(ships, **named))
                self.assertTrue(bars_by_hand(ships, worth, paper, **named))

    def test_seven_ships(self):
        chance = random.Random(7)
        for rule in (None, Hours(300, 400)):
            ships = some_ships(chance, 7, 300)
            ships = [(name, comes, min(long, 12)) for name, comes, long in ships]
            for price in (0, 30):
                worth = self.assert_told(ships, rule=rule, price=price)[0]
                self.assertEqual(worth, least_by_hand(ships, rule, price=price))


class TenTest(OpeningsCase):
    def test_ten_ships(self):
        ships = [(name, 37 * k, 1 + 6 * k) for k, name in enumerate(NAMES)]
        for rule in (None, MORNING, Days((3,)), Both((Unless(Hours(60, 70)), Unless(Hours(200, 500))))):
            for out in (1, 60):
                for gap in (0, 10 ** 6):
                    for price in (0, 10 ** 6):
                        self.assert_told(ships, rule=rule, out=out, gap=gap, price=price)

    def test_ten_ships_together(self):
        ships = [(name, 5, 60) for name in reversed(NAMES)]
        worth, plan, _ = self.assert_told(ships, out=60, price=10 ** 6)
        self.assertEqual((worth, plan), (10 ** 6, [(Stretch(5, 725), tuple(NAMES))]))
        worth, plan, _ = self.assert_told(ships, rule=Unless(Hours(719, 720)), out=60, price=10 ** 6)
        self.assertEqual((worth, plan), (10 ** 6 + 7150, [(Stretch(720, 1440), tuple(NAMES))]))

    def test_ten_ships_one_by_one(self):
        ships = [(name, 100 * k, 10) for k, name in enumerate(NAMES)]
        worth, plan, _ = self.assert_told(ships)
        self.assertEqual(worth, 0)
        self.assertEqual(plan, [(Stretch(100 * k, 100 * k + 20), (name,)) for k, name in enumerate(NAMES)])

    def test_far_minutes(self):
        ships = [(name, 10 ** 9 - 10 * k, 10) for k, name in enumerate(NAMES)]
        near = [(name, comes - WEEK * 90000, long) for name, comes, long in ships]
        far_plan, near_plan = self.assert_told(ships, rule=NIGHT)[1], self.assert_told(near, rule=NIGHT)[1]
        self.assertEqual(
            [(stretch.first - WEEK * 90000, names) for stretch, names in far_plan],
            [(stretch.first, names) for stretch, names in near_plan])


if __name__ == "__main__":
    unittest.main()
