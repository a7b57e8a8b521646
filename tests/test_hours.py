"""Promise 17, and what 18 tells of str: rules of hours."""

import unittest

from boatbridge.hours import Both, Days, Either, Hours, Rule, Unless
from tests.anything import assert_equal_both_ways, things

DAY = 1440
WEEK = 7 * DAY

MORNING = Hours(480, 630)
NIGHT = Hours(1320, 360)
ALL = Both(())
NONE = Either(())


def allowed(rule, first=0, behind=WEEK):
    return [minute for minute in range(first, behind) if rule.allows(minute)]


def six_deep():
    return Both((Unless(Either((Both((Unless(Hours(0, 1)), Days((2,)))), Days((1,))))), Days((0, 1))))


class RuleTest(unittest.TestCase):
    def test_each_stands_under_rule(self):
        for kind in (Hours, Days, Unless, Both, Either):
            self.assertEqual(kind.__bases__, (Rule,))
        for rule in (MORNING, Days((0,)), Unless(MORNING), ALL, NONE):
            self.assertIsInstance(rule, Rule)

    def test_none_stands_under_another_one(self):
        for one in (Hours, Days, Unless, Both, Either):
            for other in (Hours, Days, Unless, Both, Either):
                self.assertEqual(issubclass(one, other), one is other)

    def test_true_or_false_alone_is_told(self):
        for rule in (Rule(), MORNING, NIGHT, Days((0,)), Unless(MORNING), ALL, NONE, Both((MORNING,)), six_deep()):
            for minute in (0, 480, 630, DAY, 10 ** 9):
                self.assertIs(type(rule.allows(minute)), bool)
                self.assertIs(rule.allows(minute=minute), rule.allows(minute))


class HoursTest(unittest.TestCase):
    def test_both_ends(self):
        for day in (0, 1, 6, 7, 694443):
            for clock, told in [(0, False), (479, False), (480, True), (629, True), (630, False), (1439, False)]:
                self.assertIs(MORNING.allows(day * DAY + clock), told)

    def test_over_midnight(self):
        for day in (0, 1, 6, 7, 694443):
            for clock, told in [(0, True), (359, True), (360, False), (1319, False), (1320, True), (1439, True)]:
                self.assertIs(NIGHT.allows(day * DAY + clock), told)

    def test_to_midnight_and_from_it(self):
        self.assertEqual(allowed(Hours(1438, 0), 0, 2 * DAY), [1438, 1439, 2878, 2879])
        self.assertEqual(allowed(Hours(0, 2), 0, 2 * DAY), [0, 1, 1440, 1441])
        self.assertEqual(allowed(Hours(1439, 0), 0, DAY + 1), [1439])
        self.assertEqual(allowed(Hours(1439, 1), 0, DAY + 1), [0, 1439, 1440])
        self.assertEqual(len(allowed(Hours(0, 1439), 0, DAY)), 1439)
        self.assertNotIn(1439, allowed(Hours(0, 1439), 0, DAY))
        self.assertEqual(allowed(Unless(Hours(1, 0)), 0, DAY), [0])
        self.assertEqual(len(allowed(Hours(1, 0), 0, DAY)), 1439)
        self.assertEqual(len(allowed(Hours(700, 699), 0, DAY)), 1439)

    def test_by_names(self):
        self.assertEqual(allowed(Hours(behind=7, first=5), 0, DAY), [5, 6])
        self.assertEqual(str(Hours(behind=7, first=5)), "00:05-00:07")

    def test_all_clocks(self):
        for first, behind in [(0, 1), (5, 1439), (1439, 5), (720, 719), (1, 0), (600, 601)]:
            clocks = [(first + k) % DAY for k in range((behind - first) % DAY)]
            self.assertEqual(allowed(Hours(first, behind), 0, DAY), sorted(clocks))
            self.assertEqual(allowed(Hours(first, behind), DAY, 2 * DAY), [DAY + clock for clock in sorted(clocks)])


class DaysTest(unittest.TestCase):
    def test_each_weekday_and_at_midnight(self):
        for day in range(7):
            rule = Days((day,))
            self.assertEqual(allowed(rule), list(range(day * DAY, (day + 1) * DAY)))
            for week in (0, 1, 99206):
                first = (7 * week + day) * DAY
                self.assertIs(rule.allows(first), True)
                self.assertIs(rule.allows(first + DAY - 1), True)
                self.assertIs(rule.allows(first + DAY), False)
                if first > 0:
                    self.assertIs(rule.allows(first - 1), False)

    def test_several(self):
        told = [Days((0, 2, 6)).allows(day * DAY + 5) for day in range(14)]
        self.assertEqual(told, [True, False, True, False, False, False, True] * 2)
        self.assertEqual(len(allowed(Days((0, 1, 2, 3, 4, 5, 6)))), WEEK)

    def test_by_its_name(self):
        self.assertEqual(str(Days(days=(0, 2))), "( days 0 2 )")


class TogetherTest(unittest.TestCase):
    def test_unless(self):
        for rule in (MORNING, NIGHT, Days((1, 3)), ALL, NONE):
            every = set(range(WEEK))
            self.assertEqual(allowed(Unless(rule)), sorted(every - set(allowed(rule))))
            self.assertEqual(allowed(Unless(Unless(rule=rule))), allowed(rule))

    def test_of_none(self):
        for minute in (0, 1, 1439, 1440, 10 ** 9):
            self.assertIs(Both(()).allows(minute), True)
            self.assertIs(Either(()).allows(minute), False)
            self.assertIs(Unless(Both(())).allows(minute), False)
            self.assertIs(Unless(Either(())).allows(minute), True)

    def test_of_one(self):
        for rule in (MORNING, NIGHT, Days((1, 3)), ALL, NONE):
            self.assertEqual(allowed(Both((rule,))), allowed(rule))
            self.assertEqual(allowed(Either(rules=(rule,))), allowed(rule))

    def test_of_two(self):
        late = Hours(600, 700)
        self.assertEqual(allowed(Both((MORNING, late)), 0, DAY), list(range(600, 630)))
        self.assertEqual(allowed(Either((MORNING, late)), 0, DAY), list(range(480, 700)))
        self.assertEqual(allowed(Both((Days((1,)), late))), list(range(DAY + 600, DAY + 700)))
        self.assertEqual(len(allowed(Either((Days((1,)), late)))), DAY + 600)
        self.assertEqual(allowed(Both(rules=(MORNING, Hours(630, 700)))), [])

    def test_of_eight(self):
        parts = [Hours(k, k + 5) for k in range(8)]
        self.assertEqual(allowed(Either(tuple(parts)), 0, DAY), list(range(12)))
        self.assertEqual(allowed(Both(tuple(parts)), 0, DAY), [])
        self.assertEqual(allowed(Both(tuple(Hours(k, 20 + k) for k in range(8))), 0, DAY), list(range(7, 20)))
        for at in range(8):
            one = [NONE] * 8
            one[at] = MORNING
            self.assertEqual(allowed(Either(tuple(one)), 0, DAY), allowed(MORNING, 0, DAY))
            one = [ALL] * 8
            one[at] = MORNING
            self.assertEqual(allowed(Both(tuple(one)), 0, DAY), allowed(MORNING, 0, DAY))

    def test_six_within_one_another(self):
        rule = MORNING
        for deep in range(5):
            rule = Unless(rule)
            self.assertEqual(rule.allows(480), deep % 2 == 1)
            self.assertEqual(rule.allows(479), deep % 2 == 0)
        self.assertEqual(allowed(six_deep()), list(range(DAY)))

    def test_rules_handed_in_stay(self):
        rules = (MORNING, NIGHT)
        both = Both(rules)
        both.allows(480)
        self.assertEqual(rules, (MORNING, NIGHT))
        self.assertEqual(str(both), "( both 08:00-10:30 22:00-06:00 )")


class TextTest(unittest.TestCase):
    def test_str(self):
        for rule, text in [
            (MORNING, "08:00-10:30"),
            (NIGHT, "22:00-06:00"),
            (Hours(0, 1439), "00:00-23:59"),
            (Days((0, 2)), "( days 0 2 )"),
            (Days((6,)), "( days 6 )"),
            (Days((0, 1, 2, 3, 4, 5, 6)), "( days 0 1 2 3 4 5 6 )"),
            (Unless(MORNING), "( unless 08:00-10:30 )"),
            (Both(()), "( both )"),
            (Either(()), "( either )"),
            (Both((MORNING, Days((0,)))), "( both 08:00-10:30 ( days 0 ) )"),
            (Either((Both((NIGHT,)), Unless(Either(())))), "( either ( both 22:00-06:00 ) ( unless ( either ) ) )"),
            (Both(tuple([MORNING] * 8)), "( both" + " 08:00-10:30" * 8 + " )"),
        ]:
            with self.subTest(text):
                self.assertEqual(str(rule), text)
                self.assertEqual(f"{rule}", text)


class EqualTest(unittest.TestCase):
    def rules(self):
        """Rules none of which is equal to another one."""
        return [
            Hours(480, 630), Hours(630, 480), Hours(480, 631), Hours(479, 630), Days((0, 2)), Days((0,)), Days((0, 3)),
            Days((2,)), Unless(MORNING), Unless(NIGHT), Unless(Unless(MORNING)), Both(()), Either(()),
            Both((MORNING,)), Either((MORNING,)), Both((MORNING, NIGHT)), Both((NIGHT, MORNING)),
            Either((MORNING, NIGHT)), Either((NIGHT, MORNING)), Both((MORNING, MORNING)), Either((MORNING, MORNING)),
            Both((Both((MORNING,)),)), Both((Either((MORNING,)),)), Either((Both((MORNING,)),)), Both((Both(()),)),
            Both((MORNING, Days((0,)))), Both((MORNING, Days((1,)))), Unless(Both(())), Unless(Either(())),
            Unless(Days((0, 2))), six_deep(), Both((six_deep(),)),
        ]

    def test_made_alike(self):
        for one, other in zip(self.rules(), self.rules(), strict=True):
            with self.subTest(str(one)):
                assert_equal_both_ways(self, one, other, True)

    def test_unlike(self):
        for at, one in enumerate(self.rules()):
            for place, other in enumerate(self.rules()):
                if at != place:
                    with self.subTest(one=str(one), other=str(other)):
                        assert_equal_both_ways(self, one, other, False)

    def test_nothing_else_is_equal(self):
        for rule in [MORNING, Days((0, 2)), Unless(MORNING), Both((MORNING,)), Either(()), Both(())]:
            others = things() + [
                str(rule), (480, 630), [480, 630], (0, 2), [0, 2], (MORNING,), [MORNING], {480: 630}, object(), Rule(),
            ]
            for other in others:
                with self.subTest(rule=str(rule), other=other):
                    assert_equal_both_ways(self, rule, other, False)


if __name__ == "__main__":
    unittest.main()
