"""Point 3, until and eats: in how many days, fed enough, each weighs so much, and what all eat till then."""

import unittest

from tests.calls import LARGEST, answered, begin, day, die, eats, eggs, join, last, same_behind, split, stock, unchanged_by
from tests.calls import until

# At a warmth of 10: 50000, 50995, 52009, 53043; eaten are 1194, 1217, 1241.
THOUSAND = [begin(), stock(1000, 50)]
# One fish of 1000 that grows by 1 each day, up to a weight of 2222.
BY_ONE = [begin(conv=120, pace=[11] * 26), stock(1, 1000)]
# 1000 eggs that hatch with 100000; then 104950 and 110143, for which 5940 and 6232 are eaten.
HATCHING = [begin(hatch=20, first=100, pace=[500] * 26), eggs(1000)]


def both(before, i, w, t):
    """What until and eats answer, one behind the other."""
    return answered(*before, until(i, w, t), eats(i, w, t))[-2:]


class Till(unittest.TestCase):
    def told(self, before, i, w, t, days, feed):
        self.assertEqual(both(before, i, w, t), [[days], [feed]], (i, w, t))

    def never(self, before, i, w, t):
        self.assertEqual(both(before, i, w, t), [[-33], [-33]], (i, w, t))


class Days(Till):
    def test_ordinary(self):
        self.told(THOUSAND, 0, 51, 10, 2, 2411)
        self.told(THOUSAND, 0, 52, 10, 2, 2411)
        self.told(THOUSAND, 0, 53, 10, 3, 3652)

    def test_so_already(self):
        for w in (0, 1, 49, 50):
            for t in (0, 10, 25):
                self.told(THOUSAND, 0, w, t, 0, 0)

    def test_so_already_by_what_each_weighs_rounded_down(self):
        before = [begin(), stock(1, 50), stock(1, 51), join(0, 1)]
        self.told(before, 0, 50, 0, 0, 0)
        self.never(before, 0, 51, 0)

    def test_one_day(self):
        # 100000 * 500 // 10100 = 4950, so that each weighs 104 behind it.
        before = [begin(pace=[500] * 26), stock(1000, 100)]
        self.told(before, 0, 101, 5, 1, 5940)
        self.told(before, 0, 104, 5, 1, 5940)
        self.assertEqual(last(*before, until(0, 105, 5)), [2])

    def test_from_today_on(self):
        self.told([*THOUSAND, day(10, 1194)], 0, 53, 10, 2, 2458)
        self.told([*THOUSAND, day(10, 0), day(10, 0)], 0, 53, 10, 3, 3652)

    def test_just_a_thousand_days(self):
        self.told(BY_ONE, 0, 1999, 7, 999, 1998)
        self.told(BY_ONE, 0, 2000, 7, 1000, 2000)

    def test_a_thousand_and_one_days(self):
        self.never(BY_ONE, 0, 2001, 7)
        self.never(BY_ONE, 0, 2002, 7)
        # A day later it is so in just a thousand.
        self.told([*BY_ONE, day(7, 2)], 0, 2001, 7, 1000, 2000)

    def test_never(self):
        self.never(THOUSAND, 0, LARGEST, 25)
        self.never(BY_ONE, 0, LARGEST, 0)

    def test_conv(self):
        for conv, feed in ((50, 1), (100, 1), (101, 2), (300, 3)):
            before = [begin(conv=conv, pace=[11] * 26), stock(1, 1000)]
            self.told(before, 0, 1010, 7, 10, 10 * feed)
            self.told(before, 0, 2000, 7, 1000, 1000 * feed)

    def test_largest(self):
        before = [begin(conv=300, pace=[500] * 26)] + [stock(1000000, 100000)] * 10
        # 454545454 is grown by each lot in a day, so that each fish weighs 100454 behind it.
        self.told(before, 9, 100454, 25, 1, 13636363620)


class NothingGrows(Till):
    def test_a_warmth_of_0(self):
        self.told(THOUSAND, 0, 50, 0, 0, 0)
        self.never(THOUSAND, 0, 51, 0)

    def test_a_warmth_of_0_with_a_pace(self):
        self.told(BY_ONE, 0, 1003, 0, 3, 6)

    def test_a_pace_of_0(self):
        pace = [500] * 26
        pace[10] = 0
        before = [begin(pace=pace), stock(1000, 50)]
        self.told(before, 0, 50, 10, 0, 0)
        self.never(before, 0, 51, 10)
        self.told(before, 0, 51, 9, 1, 2985)

    def test_a_growth_rounded_down_to_0(self):
        self.never([begin(pace=[200] * 26), stock(1, 50)], 0, 51, 10)
        self.told([begin(pace=[201] * 26), stock(1, 50)], 0, 51, 10, 1, 2)

    def test_a_lot_of_none(self):
        for before in ([*THOUSAND, die(0, 1000)], [*THOUSAND, split(0, 1000)], [begin(), eggs(5), die(0, 5)]):
            self.told(before, 0, 0, 25, 0, 0)
            self.never(before, 0, 1, 25)

    def test_a_weight_of_0(self):
        for before in (THOUSAND, HATCHING, [begin(), eggs(1)]):
            for t in (0, 1, 25):
                self.told(before, 0, 0, t, 0, 0)


class OfEggs(Till):
    def test_hatched_on_the_way(self):
        for w in (1, 99, 100):
            self.told(HATCHING, 0, w, 10, 2, 0)
        self.told(HATCHING, 0, 101, 10, 3, 5940)
        self.told(HATCHING, 0, 104, 10, 3, 5940)
        self.told(HATCHING, 0, 110, 10, 4, 12172)

    def test_with_degrees_that_are_there(self):
        self.told([*HATCHING, day(10, 0)], 0, 100, 10, 1, 0)
        self.told([*HATCHING, day(10, 0)], 0, 104, 10, 2, 5940)

    def test_a_warmth_of_0(self):
        self.never(HATCHING, 0, 1, 0)

    def test_hatched_in_just_a_thousand_days(self):
        before = [begin(hatch=1000, first=100, pace=[500] * 26), eggs(1000)]
        self.told(before, 0, 100, 1, 1000, 0)
        self.never(before, 0, 101, 1)
        self.told([*before, day(1, 0)], 0, 104, 1, 1000, 5940)

    def test_hatched_and_grown_in_just_a_thousand_days(self):
        # One that hatches in 990 days, then grows from 100 by 1 a day.
        before = [begin(hatch=990, first=100, conv=100, pace=[101] * 26), eggs(1)]
        self.told(before, 0, 110, 1, 1000, 10)
        self.never(before, 0, 111, 1)


class AllLots(Till):
    def test_what_others_eat_counts(self):
        # 1818 could the heavy ones grow on either day, for which 2182 is needed.
        before = [*THOUSAND, stock(10, 100000)]
        self.told(before, 0, 52, 10, 2, 2411 + 4364)
        self.told(before, 1, 100001, 10, 1, 1194 + 2182)

    def test_others_alone_eat_till_eggs_hatch(self):
        before = [begin(hatch=20, first=3), eggs(5), stock(1000, 50)]
        self.told(before, 0, 3, 10, 2, 2411)

    def test_others_hatch_on_the_way(self):
        before = [begin(hatch=2, first=100, conv=100, pace=[11] * 26), stock(1, 1000), eggs(1000)]
        # From the third day on the hatched grow by 100000 * 11 // 10100 = 108, 109 (of 100108), 109 (of 100217).
        for w, feed in ((1001, 1), (1002, 2), (1003, 3 + 108), (1004, 4 + 217), (1005, 5 + 326)):
            self.told(before, 0, w, 1, w - 1000, feed)

    def test_days_are_the_same_beside_others(self):
        for w in (50, 51, 60, 100):
            alone = last(*THOUSAND, until(0, w, 10))
            self.assertEqual(last(*THOUSAND, stock(9, 9), eggs(9), stock(9000, 9000), until(0, w, 10)), alone)

    def test_nothing_is_eaten_by_others_if_so_already(self):
        self.told([*THOUSAND, stock(10, 100000)], 0, 50, 25, 0, 0)


class Refusals(unittest.TestCase):
    verbs = (until, eats)

    def test_too_warm(self):
        for verb in self.verbs:
            self.assertEqual(len(last(*THOUSAND, verb(0, 51, 25))), 1)
            self.assertGreater(last(*THOUSAND, verb(0, 51, 25))[0], 0)
            for t in (26, 27, LARGEST):
                for w in (0, 50, 51, LARGEST):
                    same_behind(self, THOUSAND, verb(0, w, t), -22, 1)

    def test_no_such_lot_is_told_first(self):
        for verb in self.verbs:
            self.assertEqual(last(begin(), verb(0, 0, 0)), [-2])
            for i in (1, 2, LARGEST):
                for w, t in ((0, 0), (0, 26), (51, 25), (LARGEST, 26), (LARGEST, LARGEST)):
                    same_behind(self, THOUSAND, verb(i, w, t), -2, 1)

    def test_never_changes_nothing(self):
        before = [*HATCHING, stock(20, 30), day(3, 5), die(1, 2)]
        for verb in self.verbs:
            for i in (0, 1):
                same_behind(self, before, verb(i, LARGEST, 25), -33, 2)
                same_behind(self, before, verb(i, LARGEST, 0), -33, 2)

    def test_telling_changes_nothing(self):
        before = [*HATCHING, stock(20, 30), day(3, 5), die(1, 2)]
        for verb in self.verbs:
            for i, w in ((0, 0), (0, 100), (0, 200), (1, 30), (1, 200)):
                self.assertGreaterEqual(unchanged_by(self, before, verb(i, w, 25), 2)[0], 0)

    def test_told_twice_alike(self):
        for verb in self.verbs:
            rows = answered(*THOUSAND, verb(0, 70, 9), verb(0, 70, 9))[2:]
            self.assertEqual(rows[0], rows[1])


if __name__ == "__main__":
    unittest.main()
