"""Promises 20 and 22: looks at plans and papers, whoever wrote them."""

import random
import unittest

from boatbridge.hours import Hours
from boatbridge.openings import openings
from boatbridge.openlooks import bars_less, is_plan, plan_price
from boatbridge.stretches import Stretch
from tests.anything import things, within_one_another
from tests.plans import bars_by_hand, is_plan_by_hand
from tests.somerules import ALL, DAY, MORNING, NEVER, NIGHT, WEEK, random_rule

SHIPS = [("carla", 50, 10), ("anna", 0, 10), ("berta", 0, 5)]
TOGETHER = [(Stretch(50, 85), ("anna", "berta", "carla"))]
TEN_MINUTES = Hours(10, 20)
IN_TWO = [(Stretch(0, 25), ("anna", "berta")), (Stretch(55, 75), ("carla",))]


def stretch_things():
    """Things of all kinds with Stretches in them."""
    return [
        Stretch(0, 20), [Stretch(0, 20)], (Stretch(0, 20),), [(Stretch(0, 20),)], [(Stretch(0, 20), "anna")],
        [(Stretch(0, 20), ["anna"])], [[Stretch(0, 20), ("anna",)]], [(("anna",), Stretch(0, 20))],
        [(Stretch(0, 20), ("anna",), 1)], [(Stretch(0, 20), ())], [(Stretch(0, 20), None)], {0: Stretch(0, 20)},
        [(Stretch(0, 20), Stretch(0, 20))], [((0, 20), ("anna",))], [(Stretch(0, 20), (("anna",),))],
        [(Stretch(0, 20), (Stretch(0),))], [(Stretch(0, 10 ** 30), ("anna",))], within_one_another(Stretch(0, 20)),
        [(0, 0, Stretch(0))], [(Stretch(0), 0, 0)], [(0, Stretch(0), 0)],
    ]


class PlanTest(unittest.TestCase):
    def test_plans(self):
        self.assertIs(is_plan(SHIPS, TOGETHER), True)
        self.assertIs(is_plan(SHIPS, IN_TWO), True)
        self.assertIs(is_plan([], []), True)
        self.assertIs(is_plan([("anna", 5, 1)], [(Stretch(5, 8), ("anna",))], out=1), True)

    def test_later_than_has_to_be(self):
        for later in (1, DAY, 90 * WEEK):
            moved = [(Stretch(s.first + later, s.behind + later), names) for s, names in IN_TWO]
            self.assertIs(is_plan(SHIPS, moved), True)
            self.assertIs(is_plan(SHIPS, [IN_TWO[0], moved[1]]), True)

    def test_begun_a_minute_sooner(self):
        self.assertIs(is_plan(SHIPS, [(Stretch(49, 84), ("anna", "berta", "carla"))]), False)
        self.assertIs(is_plan([("anna", 5, 10)], [(Stretch(4, 24), ("anna",))]), False)
        self.assertIs(is_plan([("anna", 5, 10)], [(Stretch(5, 25), ("anna",))]), True)

    def test_two_openings_nearer_than_gap(self):
        sooner = [IN_TWO[0], (Stretch(54, 74), ("carla",))]
        self.assertIs(is_plan(SHIPS, sooner), False)
        self.assertIs(is_plan(SHIPS, sooner, gap=29), True)
        self.assertIs(is_plan(SHIPS, IN_TWO, gap=31), False)
        touching = [("anna", 0, 10), ("berta", 20, 10)]
        self.assertIs(is_plan(touching, [(Stretch(0, 20), ("anna",)), (Stretch(20, 40), ("berta",))], gap=0), True)
        self.assertIs(is_plan(touching, [(Stretch(0, 20), ("anna",)), (Stretch(20, 40), ("berta",))], gap=1), False)
        # At the same time, and in the other order of minutes.
        at_once = [(Stretch(50, 75), ("anna", "berta")), (Stretch(50, 70), ("carla",))]
        self.assertIs(is_plan(SHIPS, at_once, gap=0), False)
        self.assertIs(is_plan(SHIPS, [(Stretch(500, 525), ("anna", "berta")), (Stretch(50, 70), ("carla",))]), False)

    def test_too_short_and_too_long(self):
        for behind, told in [(84, False), (85, True), (86, False), (50, False)]:
            self.assertIs(is_plan(SHIPS, [(Stretch(50, behind), ("anna", "berta", "carla"))]), told)
        self.assertIs(is_plan(SHIPS, TOGETHER, out=4), False)
        self.assertIs(is_plan(SHIPS, [(Stretch(50, 83), ("anna", "berta", "carla"))], out=4), True)

    def test_a_ship_out_twice_unknown_or_in_another_order(self):
        for names in [
            ("anna", "berta"), ("anna", "carla"), ("berta", "carla"), ("anna", "berta", "carla", "carla"),
            ("anna", "anna", "carla"), ("berta", "anna", "carla"), ("carla", "berta", "anna"),
            ("anna", "carla", "berta"), ("anna", "berta", "dora"), ("anna", "berta", "carla", "dora"), (),
        ]:
            many = {"anna": 10, "berta": 5, "carla": 10}
            for long in (35, 10 + sum(many.get(name, 10) for name in names)):
                with self.subTest(names=names, long=long):
                    self.assertIs(is_plan(SHIPS, [(Stretch(50, 50 + long), names)]), False)
        self.assertIs(is_plan(SHIPS, [IN_TWO[0]]), False)
        self.assertIs(is_plan(SHIPS, []), False)
        self.assertIs(is_plan(SHIPS, [IN_TWO[1], IN_TWO[0]]), False)
        self.assertIs(is_plan(SHIPS, IN_TWO + IN_TWO[1:]), False)
        self.assertIs(is_plan(SHIPS, [IN_TWO[0], (Stretch(55, 65), ()), (Stretch(95, 115), ("carla",))]), False)
        self.assertIs(is_plan([], TOGETHER), False)
        self.assertIs(is_plan([], [(Stretch(0, 10), ())]), False)

    def test_lists_for_tuples_and_tuples_for_lists(self):
        self.assertIs(is_plan(SHIPS, tuple(TOGETHER)), False)
        self.assertIs(is_plan(SHIPS, [list(TOGETHER[0])]), False)
        self.assertIs(is_plan(SHIPS, [(TOGETHER[0][0], list(TOGETHER[0][1]))]), False)
        self.assertIs(is_plan(SHIPS, [((50, 85), TOGETHER[0][1])]), False)
        self.assertIs(is_plan([("a", 0, 10)], [(Stretch(0, 20), "a")]), False)
        self.assertIs(is_plan([("a", 0, 10)], [(Stretch(0, 20), ("a",))]), True)

    def test_a_minute_that_is_not_allowed(self):
        ship = [("anna", 0, 10)]
        for first, told in [(479, False), (480, True), (610, True), (611, False), (DAY + 480, True), (0, False)]:
            for later in (0, WEEK, 3 * DAY):
                plan = [(Stretch(first + later, first + later + 20), ("anna",))]
                self.assertIs(is_plan(ship, plan, MORNING), told)
                self.assertIs(is_plan(ship, plan, rule=ALL), True)
                self.assertIs(is_plan(ship, plan, rule=NEVER), False)
                self.assertIs(is_plan(ship, plan), True)
        self.assertIs(is_plan(ship, [(Stretch(WEEK - 5, WEEK + 15), ("anna",))], NIGHT), True)

    def test_things_of_any_kind(self):
        for thing in things() + stretch_things():
            with self.subTest(thing=thing):
                self.assertIs(is_plan(SHIPS, thing), False)
                self.assertIs(is_plan([("anna", 0, 10)], thing), False)
                self.assertIs(is_plan([], thing), thing == [])
                for plan in ([thing], [TOGETHER[0], thing], [(thing, ("anna", "berta", "carla"))]):
                    self.assertIs(is_plan(SHIPS, plan), thing == Stretch(50, 85))
                self.assertIs(is_plan(SHIPS, [(Stretch(50, 85), thing)]), False)
                self.assertIs(is_plan(SHIPS, [(Stretch(50, 85), ("anna", "berta", thing))]), False)

    def test_arguments_by_names_and_what_stays(self):
        ships, plan = list(SHIPS), list(IN_TWO)
        self.assertIs(is_plan(gap=31, out=5, rule=None, plan=plan, ships=ships), False)
        self.assertIs(is_plan(ships, plan, None, 5, 30), True)
        self.assertEqual((ships, plan), (SHIPS, IN_TWO))

    def test_plans_a_little_changed(self):
        chance = random.Random(3)
        many = 0
        for _ in range(400):
            rule = chance.choice([None, MORNING, NIGHT])
            plan = openings(SHIPS, rule, 5, 30, chance.choice([0, 100]))[1]
            at = chance.randrange(len(plan))
            stretch, names = plan[at]
            first = max(0, stretch.first + chance.choice([-1, 0, 1, 30, DAY, -DAY, chance.randint(-99, 99)]))
            plan[at] = (Stretch(first, first + len(stretch) + chance.choice([0, 0, 0, 1, -1])), names)
            with self.subTest(plan=plan, rule=str(rule)):
                told = is_plan_by_hand(SHIPS, plan, rule)
                self.assertIs(is_plan(SHIPS, plan, rule), told)
                many += told
        self.assertGreater(many, 100)
        self.assertLess(many, 300)


class PriceTest(unittest.TestCase):
    def test_prices(self):
        self.assertEqual(plan_price([], []), 0)
        self.assertEqual(plan_price([], [], 9), 0)
        self.assertEqual(plan_price(SHIPS, TOGETHER), 100)
        self.assertEqual(plan_price(SHIPS, TOGETHER, 7), 107)
        self.assertEqual(plan_price(SHIPS, IN_TWO), 5)
        self.assertEqual(plan_price(SHIPS, IN_TWO, 7), 19)
        self.assertEqual(plan_price(price=10 ** 6, plan=IN_TWO, ships=SHIPS), 2000005)

    def test_later_plans(self):
        for later in (1, DAY, 90 * WEEK):
            moved = [(Stretch(s.first + later, s.behind + later), names) for s, names in IN_TWO]
            self.assertEqual(plan_price(SHIPS, moved), 5 + 3 * later)


class PaperTest(unittest.TestCase):
    def setUp(self):
        self.worth, _, self.paper = openings(SHIPS)

    def test_the_told_paper(self):
        self.assertEqual(self.worth, 5)
        self.assertIs(bars_less(SHIPS, 5, self.paper), True)
        for worth in (0, 4, 6, 7, None):
            self.assertIs(bars_less(SHIPS, worth, self.paper), False)

    def test_in_any_order_and_with_rows_besides(self):
        self.assertIs(bars_less(SHIPS, 5, self.paper[::-1]), True)
        self.assertIs(bars_less(SHIPS, 5, [(3, 10 ** 12, 0), *self.paper]), True)

    def test_a_row_out(self):
        for at in range(len(self.paper)):
            with self.subTest(row=self.paper[at]):
                self.assertIs(bars_less(SHIPS, 5, self.paper[:at] + self.paper[at + 1:]), False)

    def test_a_row_twice(self):
        for row in self.paper:
            for least in (row[2], row[2] + 1, max(0, row[2] - 1), None):
                self.assertIs(bars_less(SHIPS, 5, [*self.paper, (row[0], row[1], least)]), False)
                self.assertIs(bars_less(SHIPS, 5, [(row[0], row[1], least), *self.paper]), False)

    def test_a_least_one_more_and_one_less(self):
        for at, (many, ready, least) in enumerate(self.paper):
            for other in (least + 1, least - 1, None):
                if other != -1:
                    changed = [*self.paper]
                    changed[at] = (many, ready, other)
                    with self.subTest(row=changed[at]):
                        told = bars_by_hand(SHIPS, 5, changed)
                        self.assertIs(bars_less(SHIPS, 5, changed), told)

    def test_a_lesser_worth_is_barred_by_lesser_leasts(self):
        for less in range(1, 6):
            paper = [(many, ready, max(0, least - less)) for many, ready, least in self.paper]
            self.assertIs(bars_less(SHIPS, 5 - less, paper), True)
            self.assertIs(bars_less(SHIPS, 5, paper), False)

    def test_all_ships_let_by_has_0(self):
        ships = [("anna", 0, 10)]
        for least in (1, None, 0):
            self.assertIs(bars_less(ships, 0, [(0, 0, 0), (1, 50, least)]), least == 0)
            self.assertIs(bars_less([], least, [(0, 0, least)]), least == 0)
            self.assertIs(bars_less(ships, 0, [(0, 0, 0), (1, 50, 0), (1, 7, least)]), least == 0)
        self.assertIs(bars_less(ships, 1, [(0, 0, 1), (1, 50, 0)]), False)
        self.assertIs(bars_less(ships, 1, [(0, 0, 1), (1, 50, 0)], price=1), True)
        self.assertIs(bars_less(ships, 0, [(0, 0, 0), (1, 50, 0), (2, 0, 0)]), False)

    def test_no_plan_at_all(self):
        ships = [("anna", 0, 10), ("berta", 0, 30)]
        worth, _, paper = openings(ships, MORNING)
        self.assertIs(bars_less(ships, None, paper, MORNING), False)
        self.assertIs(bars_less(ships, worth, paper, MORNING), True)
        for rule in (NEVER, TEN_MINUTES):
            self.assertIs(bars_less(ships, None, [(0, 0, None)], rule), True)
            self.assertIs(bars_less(ships, 0, [(0, 0, None)], rule), False)
            self.assertIs(bars_less(ships, None, [(0, 0, 0)], rule), False)
            # Where nothing may come next any worth is barred.
            self.assertIs(bars_less(ships, 10 ** 12, [(0, 0, 10 ** 12)], rule), True)
            self.assertIs(bars_less(ships, None, [(0, 0, None)]), False)

    def test_none_goes_with_nones_alone(self):
        rule = TEN_MINUTES
        ships = [("anna", 0, 1), ("berta", 0, 30)]
        paper = openings(ships, rule, 1, 0)[2]
        self.assertEqual(paper, [(0, 0, None), (1, 13, None)])
        self.assertIs(bars_less(ships, None, paper, rule, 1, 0), True)
        self.assertIs(bars_less(ships, None, [(0, 0, None), (1, 13, 10 ** 9)], rule, 1, 0), False)
        self.assertIs(bars_less(ships, 5, [(0, 0, 5), (1, 13, None)], rule, 1, 0), True)
        self.assertIs(bars_less(ships, 19, [(0, 0, 19), (1, 13, 9)], rule, 1, 0), True)
        self.assertIs(bars_less(ships, 20, [(0, 0, 20), (1, 13, 9)], rule, 1, 0), False)

    def test_rows_of_the_wrong_kinds(self):
        for row in (
            (True, 0, 0), (1, True, 0), (3, 7, False), (-1, 0, 0), (0, -1, 0), (2, 5, -1), (4, 0, 0), (1, 2), (),
            (1, 2, 3, 4), [3, 7, 0], (None, 0, 0), (1, None, 0), ("1", 0, 0), (3, 7, "0"), (3, 7, [0]), 0, None, "abc",
            (Stretch(0), 0, 0), Stretch(0, 3), ((1,), 0, 0),
        ):
            with self.subTest(row=row):
                self.assertIs(bars_less(SHIPS, 5, [*self.paper, row]), False)

    def test_truths_for_numbers(self):
        ships = [("anna", 0, 10)]
        self.assertIs(bars_less(ships, 1, [(0, 0, 1), (1, 50, 0)], price=1), True)
        for paper in (
            [(0, 0, True), (1, 50, 0)], [(0, 0, 1), (True, 50, 0)], [(0, 0, 1), (1, 50, False)],
            [(False, 0, 1), (1, 50, 0)], [(0, False, 1), (1, 50, 0)],
        ):
            self.assertIs(bars_less(ships, 1, paper, price=1), False)
        self.assertIs(bars_less(ships, True, [(0, 0, 1), (1, 50, 0)], price=1), False)
        self.assertIs(bars_less(ships, False, [(0, 0, 0), (1, 50, 0)]), False)

    def test_tuples_for_lists(self):
        self.assertIs(bars_less(SHIPS, 5, tuple(self.paper)), False)
        self.assertIs(bars_less(SHIPS, 5, [list(row) for row in self.paper]), False)
        self.assertIs(bars_less(SHIPS, 5, {row: True for row in self.paper}), False)

    def test_things_of_any_kind(self):
        for thing in things() + stretch_things():
            for worth in (0, 5, None):
                with self.subTest(thing=thing, worth=worth):
                    self.assertIs(bars_less(SHIPS, worth, thing), False)
                    self.assertIs(bars_less([], worth, thing), False)
                    self.assertIs(bars_less(SHIPS, worth, [*self.paper, thing]), False)

    def test_arguments_by_names_and_what_stays(self):
        ships, paper = list(SHIPS), list(self.paper)
        self.assertIs(bars_less(price=0, gap=30, out=5, rule=None, paper=paper, worth=5, ships=ships), True)
        self.assertIs(bars_less(ships, 5, paper, None, 5, 30, 0), True)
        for named in ({"price": 1}, {"gap": 31}, {"out": 6}, {"rule": MORNING}):
            self.assertIs(bars_less(ships, 5, paper, **named), bars_by_hand(SHIPS, 5, paper, **named))
        self.assertEqual((ships, paper), (SHIPS, self.paper))

    def test_papers_a_little_changed(self):
        chance = random.Random(22)
        told = {True: 0, False: 0}
        for _ in range(250):
            ships = [(name, chance.randrange(60), chance.randint(1, 30)) for name in ("anna", "berta", "carla")]
            named = {"rule": chance.choice([None, MORNING, random_rule(chance, 3)]), "price": chance.choice([0, 9])}
            worth, _, paper = openings(ships, **named)
            for _ in range(chance.randint(1, 2)):
                at = chance.randrange(len(paper))
                many, ready, least = paper[at]
                other = 7 if least is None else least + chance.choice([1, -1, -9])
                paper[at] = (many, ready + chance.choice([0, 0, 0, 1]), chance.choice([max(0, other), least, None]))
            worth = chance.choice([worth, paper[0][2]])
            with self.subTest(ships=ships, paper=paper, rule=str(named["rule"])):
                right = bars_by_hand(ships, worth, paper, **named)
                self.assertIs(bars_less(ships, worth, paper, **named), right)
                told[right] += 1
        self.assertGreater(min(told.values()), 25)


if __name__ == "__main__":
    unittest.main()
