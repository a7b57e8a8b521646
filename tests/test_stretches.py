"""Promises 6 and 7: stretches, and what two or a list of them have."""

import itertools
import unittest

from boatbridge.errors import NoStretch
from boatbridge.stretches import Stretch, gaps, joined, meet, minutes_in

MOST = 10 ** 9

# All stretches within the first minutes, empty ones too.
SMALL = [Stretch(first, behind) for first in range(6) for behind in range(first, 6)]


def spelled(some):
    return [(stretch.first, stretch.behind) for stretch in some]


def minutes_of(some):
    return sorted({minute for stretch in some for minute in range(stretch.first, stretch.behind)})


def runs(minutes, apart):
    """Rising minutes as pairs, those with at most apart minutes between put together."""
    found = []
    for minute in minutes:
        if found and minute - found[-1][1] <= apart:
            found[-1] = (found[-1][0], minute + 1)
        else:
            found.append((minute, minute + 1))
    return found


class StretchTest(unittest.TestCase):
    def test_fields(self):
        stretch = Stretch(425, 480)
        self.assertEqual((stretch.first, stretch.behind), (425, 480))

    def test_behind_left_out_or_none_is_the_next_minute(self):
        for stretch in (Stretch(425), Stretch(425, None), Stretch(425, behind=None), Stretch(first=425)):
            self.assertEqual((stretch.first, stretch.behind), (425, 426))
        self.assertEqual((Stretch(0).first, Stretch(0).behind), (0, 1))
        self.assertEqual((Stretch(MOST).first, Stretch(MOST).behind), (MOST, MOST + 1))

    def test_behind_of_0_is_not_left_out(self):
        self.assertEqual((Stretch(0, 0).first, Stretch(0, 0).behind), (0, 0))
        with self.assertRaises(NoStretch):
            Stretch(1, 0)

    def test_arguments_by_names(self):
        stretch = Stretch(behind=480, first=425)
        self.assertEqual((stretch.first, stretch.behind), (425, 480))

    def test_behind_less_than_first_is_refused(self):
        for first, behind in ((480, 425), (1, 0), (426, 425), (MOST, 0), (MOST, MOST - 1)):
            with self.subTest(first=first, behind=behind):
                with self.assertRaises(NoStretch) as caught:
                    Stretch(first, behind)
                self.assertEqual((caught.exception.first, caught.exception.behind), (first, behind))
                with self.assertRaises(NoStretch):
                    Stretch(behind=behind, first=first)

    def test_length(self):
        self.assertEqual(len(Stretch(425, 480)), 55)
        self.assertEqual(len(Stretch(425)), 1)
        self.assertEqual(len(Stretch(425, 425)), 0)
        self.assertEqual(len(Stretch(0, MOST)), MOST)
        self.assertEqual(len(Stretch(MOST, MOST)), 0)

    def test_bool_is_whether_it_has_minutes(self):
        self.assertIs(bool(Stretch(0)), True)
        self.assertIs(bool(Stretch(0, MOST)), True)
        self.assertIs(bool(Stretch(0, 0)), False)
        self.assertIs(bool(Stretch(425, 425)), False)

    def test_str(self):
        self.assertEqual(str(Stretch(425, 480)), "07:05-08:00")
        self.assertEqual(str(Stretch(0)), "00:00-00:01")
        self.assertEqual(str(Stretch(0, 0)), "00:00-00:00")
        self.assertEqual(str(Stretch(1439)), "23:59-00:00+1")
        self.assertEqual(str(Stretch(1439, 1441)), "23:59-00:01+1")
        self.assertEqual(str(Stretch(1865, 14400)), "07:05+1-00:00+10")
        self.assertEqual(str(Stretch(10 ** 6, MOST)), "10:40+694-10:40+694444")
        self.assertEqual(f"{Stretch(425, 480)}", "07:05-08:00")

    def test_repr(self):
        self.assertEqual(repr(Stretch(425, 480)), "Stretch(425, 480)")
        self.assertEqual(repr(Stretch(425)), "Stretch(425, 426)")
        self.assertEqual(repr([Stretch(0, 0)]), "[Stretch(0, 0)]")
        self.assertEqual(repr(Stretch(0, MOST)), "Stretch(0, 1000000000)")


class EqualStretchesTest(unittest.TestCase):
    def assert_equal_both_ways(self, one, other, equal):
        self.assertIs(one == other, equal)
        self.assertIs(other == one, equal)
        self.assertIs(one != other, not equal)
        self.assertIs(other != one, not equal)

    def test_same_minutes(self):
        self.assert_equal_both_ways(Stretch(425, 480), Stretch(425, 480), True)
        self.assert_equal_both_ways(Stretch(425), Stretch(425, 426), True)
        self.assert_equal_both_ways(Stretch(3, 3), Stretch(3, 3), True)

    def test_other_minutes(self):
        self.assert_equal_both_ways(Stretch(425, 480), Stretch(424, 480), False)
        self.assert_equal_both_ways(Stretch(425, 480), Stretch(425, 481), False)
        self.assert_equal_both_ways(Stretch(425, 480), Stretch(426, 481), False)
        self.assert_equal_both_ways(Stretch(3, 3), Stretch(4, 4), False)

    def test_nothing_else_is_equal(self):
        others = [
            None, True, False, 0, 1, 55, "", "07:05-08:00", "Stretch(425, 480)", (425, 480), [425, 480],
            {425: 480}, {"first": 425, "behind": 480}, range(425, 480), object(), Alike(),
        ]
        for other in others:
            with self.subTest(other=other):
                self.assert_equal_both_ways(Stretch(425, 480), other, False)

    def test_in_lists(self):
        self.assertEqual([Stretch(1), Stretch(2)], [Stretch(1, 2), Stretch(2, 3)])
        self.assertIn(Stretch(1), [Stretch(0), Stretch(1)])
        self.assertNotIn(Stretch(1), [Stretch(0), (1, 2)])


class Alike:
    """Bears the fields of a Stretch, and is none."""

    first = 425
    behind = 480


class MeetTest(unittest.TestCase):
    def assert_meet(self, one, other, told):
        self.assertEqual(meet(one, other), told)
        self.assertEqual(meet(other, one), told)

    def test_ordinary(self):
        self.assert_meet(Stretch(425, 480), Stretch(470, 500), Stretch(470, 480))
        self.assert_meet(Stretch(0, 10), Stretch(3, 5), Stretch(3, 5))
        self.assert_meet(Stretch(0, 10), Stretch(0, 10), Stretch(0, 10))
        self.assert_meet(Stretch(0, 10), Stretch(9, 20), Stretch(9))
        self.assert_meet(Stretch(0, 10), Stretch(0, 5), Stretch(0, 5))
        self.assert_meet(Stretch(0, 10), Stretch(5, 10), Stretch(5, 10))

    def test_none(self):
        for one, other in [
            (Stretch(0, 10), Stretch(10, 20)),
            (Stretch(0, 10), Stretch(15, 20)),
            (Stretch(0, 10), Stretch(5, 5)),
            (Stretch(0, 10), Stretch(0, 0)),
            (Stretch(0, 10), Stretch(10, 10)),
            (Stretch(5, 5), Stretch(5, 5)),
        ]:
            with self.subTest(one=one, other=other):
                self.assertIsNone(meet(one, other))
                self.assertIsNone(meet(other, one))

    def test_by_names(self):
        self.assertEqual(meet(other=Stretch(3, 9), one=Stretch(5, 20)), Stretch(5, 9))

    def test_all_small_ones(self):
        for one, other in itertools.product(SMALL, SMALL):
            both = [minute for minute in minutes_of([one]) if minute in minutes_of([other])]
            told = meet(one, other)
            self.assertEqual(minutes_of([told]) if told is not None else [], both)
            self.assertEqual(told is None, both == [])


class JoinedTest(unittest.TestCase):
    def test_of_none(self):
        self.assertEqual(joined([]), [])
        self.assertEqual(joined([], 5), [])
        self.assertEqual(joined([Stretch(3, 3), Stretch(0, 0)], 100), [])

    def test_those_that_touch(self):
        self.assertEqual(spelled(joined([Stretch(0, 5), Stretch(5, 9)])), [(0, 9)])
        self.assertEqual(spelled(joined([Stretch(5, 9), Stretch(0, 5)])), [(0, 9)])
        self.assertEqual(spelled(joined([Stretch(0, 5), Stretch(6, 9)])), [(0, 5), (6, 9)])

    def test_one_within_another(self):
        some = [Stretch(2, 3), Stretch(0, 10), Stretch(8, 9), Stretch(10, 11), Stretch(12, 13)]
        self.assertEqual(spelled(joined(some)), [(0, 11), (12, 13)])

    def test_alike(self):
        self.assertEqual(spelled(joined([Stretch(4, 8)] * 3)), [(4, 8)])

    def test_any_order(self):
        some = [Stretch(100, 110), Stretch(9, 20), Stretch(0, 10), Stretch(50, 60)]
        for order in itertools.permutations(some):
            self.assertEqual(spelled(joined(list(order))), [(0, 20), (50, 60), (100, 110)])

    def test_apart(self):
        some = [Stretch(20, 30), Stretch(0, 10), Stretch(45, 50)]
        self.assertEqual(spelled(joined(some, 9)), [(0, 10), (20, 30), (45, 50)])
        self.assertEqual(spelled(joined(some, 10)), [(0, 30), (45, 50)])
        self.assertEqual(spelled(joined(some, 14)), [(0, 30), (45, 50)])
        self.assertEqual(spelled(joined(some, apart=15)), [(0, 50)])
        self.assertEqual(spelled(joined(apart=MOST, some=some)), [(0, 50)])
        self.assertEqual(spelled(joined(some, apart=0)), spelled(joined(some)))

    def test_apart_from_the_end_of_the_longest(self):
        some = [Stretch(0, 20), Stretch(1, 2), Stretch(25, 30)]
        self.assertEqual(spelled(joined(some, 5)), [(0, 30)])
        self.assertEqual(spelled(joined(some, 4)), [(0, 20), (25, 30)])

    def test_empty_ones_count_for_nothing(self):
        some = [Stretch(0, 5), Stretch(7, 7), Stretch(9, 12), Stretch(40, 40)]
        self.assertEqual(spelled(joined(some)), [(0, 5), (9, 12)])
        self.assertEqual(spelled(joined(some, 2)), [(0, 5), (9, 12)])
        self.assertEqual(spelled(joined(some, 3)), [(0, 5), (9, 12)])
        self.assertEqual(spelled(joined(some, 4)), [(0, 12)])

    def test_far_and_many(self):
        self.assertEqual(spelled(joined([Stretch(MOST - 1, MOST), Stretch(0, MOST)])), [(0, MOST)])
        some = [Stretch(3 * k, 3 * k + 2) for k in reversed(range(1000))]
        self.assertEqual(len(joined(some)), 1000)
        self.assertEqual(spelled(joined(some, 1)), [(0, 2999)])

    def test_all_small_ones(self):
        for some in itertools.combinations_with_replacement(SMALL, 3):
            for order in (list(some), list(reversed(some))):
                for apart in range(4):
                    self.assertEqual(spelled(joined(order, apart)), runs(minutes_of(order), apart))


class GapsTest(unittest.TestCase):
    def test_of_none(self):
        self.assertEqual(spelled(gaps([], Stretch(5, 9))), [(5, 9)])
        self.assertEqual(gaps([], Stretch(5, 5)), [])
        self.assertEqual(spelled(gaps([Stretch(6, 6)], Stretch(5, 9))), [(5, 9)])

    def test_ordinary(self):
        some = [Stretch(30, 40), Stretch(10, 20)]
        self.assertEqual(spelled(gaps(some, Stretch(0, 50))), [(0, 10), (20, 30), (40, 50)])
        self.assertEqual(spelled(gaps(some, Stretch(10, 40))), [(20, 30)])
        self.assertEqual(spelled(gaps(some, Stretch(15, 35))), [(20, 30)])
        self.assertEqual(spelled(gaps(some, Stretch(20, 30))), [(20, 30)])
        self.assertEqual(spelled(gaps(some, Stretch(22, 25))), [(22, 25)])
        self.assertEqual(gaps(some, Stretch(10, 20)), [])
        self.assertEqual(gaps(some, Stretch(12, 15)), [])
        self.assertEqual(gaps(some, Stretch(25, 25)), [])

    def test_beyond_within(self):
        self.assertEqual(spelled(gaps([Stretch(0, 5), Stretch(90, 95)], Stretch(10, 20))), [(10, 20)])
        self.assertEqual(spelled(gaps([Stretch(0, 12), Stretch(18, 95)], Stretch(10, 20))), [(12, 18)])
        self.assertEqual(spelled(gaps([Stretch(50, 60), Stretch(70, 80)], Stretch(10, 20))), [(10, 20)])

    def test_those_that_touch_or_lie_within(self):
        some = [Stretch(5, 6), Stretch(0, 10), Stretch(10, 12), Stretch(5, 6)]
        self.assertEqual(spelled(gaps(some, Stretch(0, 15))), [(12, 15)])

    def test_by_names(self):
        self.assertEqual(spelled(gaps(within=Stretch(0, 9), some=[Stretch(3, 5)])), [(0, 3), (5, 9)])

    def test_all_small_ones(self):
        for one, other, within in itertools.product(SMALL, SMALL, SMALL):
            taken = minutes_of([one, other])
            free = [minute for minute in minutes_of([within]) if minute not in taken]
            self.assertEqual(spelled(gaps([one, other], within)), runs(free, 0))


class MinutesInTest(unittest.TestCase):
    def test_ordinary(self):
        self.assertEqual(minutes_in([]), 0)
        self.assertEqual(minutes_in([Stretch(5, 5)]), 0)
        self.assertEqual(minutes_in([Stretch(5)]), 1)
        self.assertEqual(minutes_in([Stretch(0, 10), Stretch(5, 15), Stretch(40, 45)]), 20)
        self.assertEqual(minutes_in([Stretch(0, 10)] * 3), 10)
        self.assertEqual(minutes_in([Stretch(8, 10), Stretch(0, 2), Stretch(2, 4)]), 6)
        self.assertEqual(minutes_in(some=[Stretch(0, MOST), Stretch(3)]), MOST)
        self.assertIs(type(minutes_in([])), int)

    def test_all_small_ones(self):
        for some in itertools.combinations_with_replacement(SMALL, 3):
            self.assertEqual(minutes_in(list(some)), len(minutes_of(some)))


class ListsTest(unittest.TestCase):
    """Promise 2: what is handed in stays, what is told is the asker's own."""

    def test_lists_handed_in_stay(self):
        some = [Stretch(9, 20), Stretch(3, 3), Stretch(0, 10), Stretch(9, 20)]
        kept, before = list(some), spelled(some)
        within = Stretch(2, 30)
        joined(some)
        joined(some, 50)
        gaps(some, within)
        minutes_in(some)
        meet(some[0], some[2])
        self.assertEqual(spelled(some), before)
        self.assertTrue(all(one is other for one, other in zip(some, kept, strict=True)))
        self.assertEqual((within.first, within.behind), (2, 30))

    def test_lists_told_are_plain_and_new(self):
        some = [Stretch(0, 5), Stretch(8, 9)]
        within = Stretch(0, 20)
        for ask in (lambda: joined(some), lambda: gaps(some, within), lambda: joined([]), lambda: gaps([], within)):
            told = ask()
            before = spelled(told)
            self.assertIs(type(told), list)
            self.assertIsNot(told, some)
            told.append(Stretch(100))
            told.reverse()
            self.assertEqual(spelled(ask()), before)
            told.clear()
            self.assertEqual(spelled(ask()), before)
        self.assertEqual(spelled(some), [(0, 5), (8, 9)])

    def test_a_list_told_stays_when_the_one_handed_in_changes(self):
        some = [Stretch(0, 5), Stretch(8, 9)]
        told, free = joined(some), gaps(some, Stretch(0, 20))
        some.clear()
        self.assertEqual(spelled(told), [(0, 5), (8, 9)])
        self.assertEqual(spelled(free), [(5, 8), (9, 20)])


if __name__ == "__main__":
    unittest.main()
