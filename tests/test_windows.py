"""Promise 19: the windows of rules of hours, held against a look minute by minute."""

import random
import unittest

from boatbridge.hours import Both, Days, Either, Hours, Rule, Unless
from boatbridge.stretches import Stretch
from boatbridge.windows import allowed_in, first_allowed
from tests.somerules import (
    ALL, DAY, MORNING, NEVER, NIGHT, TUESDAYS, WEEK, first_by_hand, random_rule, rows_ahead, six_deep,
    stretches_by_hand, week_of,
)

FAR_WEEK = 10 ** 9 // WEEK * WEEK
SIXTY = 60 * DAY


def spelled(stretches):
    return [(stretch.first, stretch.behind) for stretch in stretches]


class FirstTest(unittest.TestCase):
    def test_all_minutes(self):
        for minute in (0, 1, 1439, 1440, WEEK - 1, WEEK, 10 ** 9):
            for long in (1, 2, 720, 1440):
                self.assertEqual(first_allowed(ALL, minute, long), minute)
                self.assertEqual(first_allowed(Rule(), minute, long), minute)
                self.assertEqual(first_allowed(Days((0, 1, 2, 3, 4, 5, 6)), minute, long), minute)

    def test_no_minute(self):
        for rule in (NEVER, Unless(ALL), Both((MORNING, NIGHT)), Both((Days((0,)), Days((1,))))):
            for minute in (0, 500, 10 ** 9):
                self.assertIsNone(first_allowed(rule, minute))
                self.assertIsNone(first_allowed(rule, minute, 1440))

    def test_ahead_of_it_within_it_at_its_end_and_behind_it(self):
        for day in (0, 1, 6, 7, 694443):
            base = day * DAY
            for clock, told in [
                (0, 480), (479, 480), (480, 480), (481, 481), (629, 629), (630, DAY + 480), (631, DAY + 480),
                (1439, DAY + 480),
            ]:
                self.assertEqual(first_allowed(MORNING, base + clock), base + told)

    def test_long_to_the_end_and_one_more(self):
        self.assertEqual(first_allowed(MORNING, 0, 150), 480)
        self.assertIsNone(first_allowed(MORNING, 0, 151))
        self.assertEqual(first_allowed(MORNING, 480, 150), 480)
        self.assertEqual(first_allowed(MORNING, 481, 150), DAY + 480)
        self.assertEqual(first_allowed(MORNING, 600, 30), 600)
        self.assertEqual(first_allowed(MORNING, 601, 30), DAY + 480)
        self.assertEqual(first_allowed(MORNING, 10 ** 9, 150), 694445 * DAY + 480)

    def test_long_left_out_and_arguments_by_names(self):
        self.assertEqual(first_allowed(MORNING, 629), 629)
        self.assertEqual(first_allowed(minute=629, rule=MORNING), 629)
        self.assertEqual(first_allowed(long=2, minute=629, rule=MORNING), DAY + 480)

    def test_over_midnight(self):
        self.assertEqual(first_allowed(NIGHT, 0, 360), 0)
        self.assertEqual(first_allowed(NIGHT, 0, 361), 1320)
        self.assertEqual(first_allowed(NIGHT, 1, 360), 1320)
        self.assertEqual(first_allowed(NIGHT, 0, 480), 1320)
        self.assertIsNone(first_allowed(NIGHT, 0, 481))
        self.assertEqual(first_allowed(NIGHT, 1400, 400), 1400)
        self.assertEqual(first_allowed(NIGHT, 1401, 400), DAY + 1320)
        self.assertEqual(first_allowed(NIGHT, WEEK - 1, 361), WEEK - 1)
        self.assertEqual(first_allowed(NIGHT, WEEK - 1, 362), WEEK + 1320)

    def test_over_the_end_of_a_week(self):
        rule = Either((Both((Days((6,)), Hours(1430, 0))), Both((Days((0,)), Hours(0, 5)))))
        for week in (0, 1, 99000):
            base = week * WEEK
            self.assertEqual(first_allowed(rule, base, 5), base)
            self.assertEqual(first_allowed(rule, base, 6), base + WEEK - 10)
            self.assertEqual(first_allowed(rule, base + 1, 15), base + WEEK - 10)
            self.assertEqual(first_allowed(rule, base + WEEK - 9, 15), base + 2 * WEEK - 10)
            self.assertIsNone(first_allowed(rule, base, 16))

    def test_one_weekday(self):
        self.assertEqual(first_allowed(TUESDAYS, 0), 2 * DAY)
        self.assertEqual(first_allowed(TUESDAYS, 0, 1440), 2 * DAY)
        self.assertEqual(first_allowed(TUESDAYS, 2 * DAY, 1440), 2 * DAY)
        self.assertEqual(first_allowed(TUESDAYS, 2 * DAY + 1, 1440), 9 * DAY)
        self.assertEqual(first_allowed(TUESDAYS, 3 * DAY - 1), 3 * DAY - 1)
        self.assertEqual(first_allowed(TUESDAYS, 3 * DAY), 9 * DAY)
        self.assertEqual(first_allowed(TUESDAYS, FAR_WEEK + 3 * DAY), FAR_WEEK + 9 * DAY)

    def test_each_day_has_but_a_shorter_row(self):
        parts = Either(tuple(Hours(k * 100, k * 100 + 7) for k in range(8)))
        for minute in (0, 5, 707, DAY, 10 ** 9):
            self.assertIsNone(first_allowed(parts, minute, 8))
        self.assertEqual(first_allowed(parts, 1, 7), 100)
        # The rows of one weekday are longer.
        longer = Either((parts, Both((Days((4,)), Hours(0, 50)))))
        self.assertEqual(first_allowed(longer, 0, 8), 4 * DAY)
        self.assertEqual(first_allowed(longer, 4 * DAY + 43, 8), 11 * DAY)
        self.assertIsNone(first_allowed(longer, 0, 51))

    def test_the_whole_day_but_one_minute(self):
        rule = Unless(Hours(720, 721))
        self.assertEqual(first_allowed(rule, 0, 720), 0)
        self.assertEqual(first_allowed(rule, 0, 721), 721)
        self.assertEqual(first_allowed(rule, 0, 1439), 721)
        self.assertEqual(first_allowed(rule, 722, 1439), DAY + 721)
        self.assertIsNone(first_allowed(rule, 0, 1440))

    def test_six_within_one_another(self):
        rule = six_deep()
        rows = rows_ahead(week_of(rule))
        for minute in (0, 360, 419, 420, 6 * DAY + 719, 6 * DAY + 750, WEEK - 1, FAR_WEEK + 421):
            for long in (1, 2, 60, 61, 720, 721, 1440):
                self.assertEqual(first_allowed(rule, minute, long), first_by_hand(rows, minute, long))

    def test_eight_in_each_of_six_is_soon_told(self):
        rule = Hours(480, 630)
        for deep in range(5):
            rule = Unless(rule) if deep % 2 else Both((rule,) * 8)
        self.assertEqual(first_allowed(rule, 0, 150), 480)

    def test_any_rules_minute_by_minute(self):
        chance = random.Random(19)
        for _ in range(150):
            rule = random_rule(chance, 6)
            rows = rows_ahead(week_of(rule))
            for _ in range(12):
                minute = chance.choice([0, chance.randrange(2 * WEEK), 10 ** 9 - chance.randrange(WEEK)])
                minute = chance.choice([minute, minute // DAY * DAY + chance.choice([0, 1, 360, 480, 1438, 1439])])
                long = chance.choice([1, 2, 360, 361, 720, 960, 1439, 1440, chance.randint(1, 1440)])
                with self.subTest(rule=str(rule), minute=minute, long=long):
                    self.assertEqual(first_allowed(rule, minute, long), first_by_hand(rows, minute, long))


class AllowedTest(unittest.TestCase):
    def test_empty_stretches(self):
        for rule in (ALL, NEVER, MORNING):
            for minute in (0, 480, 500, 630, WEEK, 10 ** 9):
                self.assertEqual(allowed_in(rule, Stretch(minute, minute)), [])

    def test_one_minute(self):
        for minute, told in [(479, []), (480, [(480, 481)]), (629, [(629, 630)]), (630, []), (0, []), (1439, [])]:
            for base in (0, DAY, WEEK, FAR_WEEK):
                there = [(base + first, base + behind) for first, behind in told]
                self.assertEqual(spelled(allowed_in(MORNING, Stretch(base + minute))), there)

    def test_cut_at_both_ends(self):
        self.assertEqual(spelled(allowed_in(MORNING, Stretch(500, 600))), [(500, 600)])
        self.assertEqual(spelled(allowed_in(MORNING, Stretch(0, DAY))), [(480, 630)])
        self.assertEqual(spelled(allowed_in(MORNING, Stretch(500, DAY + 481))), [(500, 630), (DAY + 480, DAY + 481)])
        self.assertEqual(spelled(allowed_in(MORNING, Stretch(630, DAY + 480))), [])

    def test_as_few_as_can_be(self):
        self.assertEqual(spelled(allowed_in(ALL, Stretch(5, SIXTY + 5))), [(5, SIXTY + 5)])
        self.assertEqual(spelled(allowed_in(NIGHT, Stretch(0, 2 * DAY))), [(0, 360), (1320, 1800), (2760, 2880)])
        self.assertEqual(spelled(allowed_in(Days((0, 1, 6)), Stretch(0, 2 * WEEK))), [
            (0, 2 * DAY), (6 * DAY, 9 * DAY), (13 * DAY, 14 * DAY),
        ])
        together = Either((Hours(10, 20), Hours(20, 30), Hours(15, 17), Hours(31, 40)))
        self.assertEqual(spelled(allowed_in(together, Stretch(0, 100))), [(10, 30), (31, 40)])

    def test_none_and_all(self):
        self.assertEqual(allowed_in(NEVER, Stretch(0, SIXTY)), [])
        far_on = Stretch(FAR_WEEK, FAR_WEEK + 9)
        self.assertEqual(spelled(allowed_in(Unless(NEVER), far_on)), [(FAR_WEEK, FAR_WEEK + 9)])

    def test_arguments_by_names_and_new_lists(self):
        within = Stretch(0, DAY)
        told = allowed_in(within=within, rule=MORNING)
        self.assertEqual(told, [Stretch(480, 630)])
        self.assertIs(type(told), list)
        told.clear()
        self.assertEqual(allowed_in(MORNING, within), [Stretch(480, 630)])
        self.assertEqual(within, Stretch(0, DAY))

    def test_sixty_days_minute_by_minute(self):
        chance = random.Random(60)
        for rule in (MORNING, NIGHT, TUESDAYS, six_deep(), random_rule(chance, 6)):
            for first in (0, 700, 3 * WEEK - 1, 10 ** 9 - 5):
                with self.subTest(rule=str(rule), first=first):
                    told = allowed_in(rule, Stretch(first, first + SIXTY))
                    self.assertEqual(spelled(told), stretches_by_hand(rule, first, first + SIXTY))

    def test_any_rules_minute_by_minute(self):
        chance = random.Random(91)
        for _ in range(120):
            rule = random_rule(chance, 6)
            first = chance.choice([0, 359, 360, 480, DAY, WEEK, WEEK - 1, chance.randrange(WEEK), FAR_WEEK + 700])
            behind = first + chance.choice([1, 2, 100, DAY, 2 * DAY, WEEK, WEEK + 1])
            with self.subTest(rule=str(rule), first=first, behind=behind):
                self.assertEqual(
                    spelled(allowed_in(rule, Stretch(first, behind))), stretches_by_hand(rule, first, behind))


if __name__ == "__main__":
    unittest.main()
