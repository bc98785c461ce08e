"""Point 3, hatches and ahead, and point 4, lasts: what days to come bring, fed enough."""

import time
import unittest

from tests.calls import LARGEST, ahead, answered, begin, day, die, eats, eggs, hatches, join, last, lasts, look
from tests.calls import same_behind, split, stock, unchanged_by, until

# At a warmth of 10: 50000, 50995, 52009, 53043; eaten are 1194, 1217, 1241.
THOUSAND = [begin(), stock(1000, 50)]
# One fish of 1000 that grows by 1 each day, and eats 2 for that.
BY_ONE = [begin(conv=120, pace=[11] * 26), stock(1, 1000)]
# 1000 eggs that hatch with 100000; then 104950 and 110143, for which 5940 and 6232 are eaten.
HATCHING = [begin(hatch=20, first=100, pace=[500] * 26), eggs(1000)]


class Hatches(unittest.TestCase):
    def test_ordinary(self):
        for t, days in ((1, 20), (2, 10), (6, 4), (7, 3), (9, 3), (10, 2), (19, 2), (20, 1), (21, 1), (25, 1)):
            self.assertEqual(last(*HATCHING, hatches(0, t)), [days], t)

    def test_with_degrees_that_are_there(self):
        before = [*HATCHING, day(9, 0)]
        for t, days in ((1, 11), (5, 3), (6, 2), (10, 2), (11, 1), (25, 1)):
            self.assertEqual(last(*before, hatches(0, t)), [days], t)

    def test_each_day_one_fewer(self):
        rows = answered(*HATCHING, *[hatches(0, 5), day(5, 0)] * 4, hatches(0, 5))[2:]
        self.assertEqual(rows[::2], [[4], [3], [2], [1], [-6]])

    def test_in_just_a_thousand_days(self):
        before = [begin(hatch=1000), eggs(5)]
        self.assertEqual(last(*before, hatches(0, 1)), [1000])
        self.assertEqual(last(*before, hatches(0, 25)), [40])
        # None takes 1,001: 1,000 degree-days are the most that it may take.
        self.assertEqual(last(begin(hatch=999), eggs(5), hatches(0, 1)), [999])

    def test_hatch_1(self):
        for t in (1, 2, 25):
            self.assertEqual(last(begin(hatch=1), eggs(5), hatches(0, t)), [1])

    def test_never(self):
        for hatch in (1, 20, 1000):
            same_behind(self, [begin(hatch=hatch), eggs(5)], hatches(0, 0), -33, 1)
        same_behind(self, [*HATCHING, day(19, 0)], hatches(0, 0), -33, 1)

    def test_pace_does_not_matter(self):
        self.assertEqual(last(begin(pace=[0] * 26), eggs(5), hatches(0, 10)), [10])
        self.assertEqual(last(begin(pace=[500] * 26), eggs(5), hatches(0, 0)), [-33])

    def test_it_is_hatched(self):
        for before in (THOUSAND, [*THOUSAND, die(0, 1000)], [*HATCHING, day(20, 0)], [*HATCHING, day(25, 0)]):
            for t in (0, 1, 25):
                same_behind(self, before, hatches(0, t), -6, 1)

    def test_a_lot_of_none(self):
        before = [*HATCHING, die(0, 1000)]
        self.assertEqual(last(*before, hatches(0, 10)), [2])
        self.assertEqual(last(*before, hatches(0, 0)), [-33])
        self.assertEqual(last(*before, day(10, 0), day(10, 0), hatches(0, 10)), [-6])

    def test_parts_and_joined(self):
        before = [*HATCHING, day(9, 0), eggs(4), split(0, 400)]
        self.assertEqual(answered(*before, hatches(0, 10), hatches(1, 11), hatches(2, 11))[5:], [[2], [2], [1]])
        self.assertEqual(last(*before, join(2, 0), hatches(0, 11)), [1])

    def test_too_warm_is_told_ahead_of_hatched(self):
        self.assertEqual(last(*HATCHING, hatches(0, 25)), [1])
        for before in (HATCHING, THOUSAND):
            for t in (26, 27, LARGEST):
                same_behind(self, before, hatches(0, t), -22, 1)

    def test_no_such_lot_is_told_first(self):
        self.assertEqual(last(begin(), hatches(0, 0)), [-2])
        for before in (HATCHING, THOUSAND):
            for i in (1, 2, LARGEST):
                for t in (0, 1, 26, LARGEST):
                    same_behind(self, before, hatches(i, t), -2, 1)

    def test_it_changes_nothing(self):
        self.assertEqual(unchanged_by(self, [*HATCHING, day(9, 4)], hatches(0, 2), 1), [6])


class Ahead(unittest.TestCase):
    def test_ordinary(self):
        rows = answered(*THOUSAND, *[ahead(n, 10) for n in range(4)])[2:]
        self.assertEqual(rows, [[50000, 0], [50995, 1194], [52009, 2411], [53043, 3652]])

    def test_no_days(self):
        self.assertEqual(last(begin(), ahead(0, 25)), [0, 0])
        self.assertEqual(last(*THOUSAND, stock(3, 4), eggs(5), ahead(0, 25)), [50012, 0])

    def test_no_lots(self):
        self.assertEqual(last(begin(), ahead(1000, 25)), [0, 0])

    def test_a_thousand_days(self):
        self.assertEqual(last(*BY_ONE, ahead(999, 3)), [1999, 1998])
        self.assertEqual(last(*BY_ONE, ahead(1000, 3)), [2000, 2000])

    def test_more_days(self):
        for n in (1001, 1002, LARGEST):
            for t in (0, 25, 26, LARGEST):
                same_behind(self, BY_ONE, ahead(n, t), -22, 1)
        self.assertEqual(last(begin(), ahead(1001, 0)), [-22])

    def test_too_warm(self):
        self.assertEqual(last(*THOUSAND, ahead(1, 25)), [52487, 2985])
        for t in (26, 27, LARGEST):
            for n in (0, 1, 1000):
                same_behind(self, THOUSAND, ahead(n, t), -22, 1)
        self.assertEqual(last(begin(), ahead(0, 26)), [-22])

    def test_all_lots(self):
        before = [*THOUSAND, stock(10, 100000), eggs(8)]
        self.assertEqual(last(*before, ahead(2, 10)), [52009 + 1003636, 2411 + 4364])

    def test_eggs_that_hatch_on_the_way(self):
        rows = answered(*HATCHING, *[ahead(n, 10) for n in range(5)])[2:]
        self.assertEqual(rows, [[0, 0], [0, 0], [100000, 0], [104950, 5940], [110143, 12172]])

    def test_eggs_that_hatch_in_the_last_of_a_thousand_days(self):
        before = [begin(hatch=1000, first=7), eggs(50)]
        self.assertEqual(last(*before, ahead(999, 1)), [0, 0])
        self.assertEqual(last(*before, ahead(1000, 1)), [350, 0])

    def test_nothing_grows(self):
        self.assertEqual(last(*THOUSAND, eggs(5), ahead(1000, 0)), [50000, 0])
        self.assertEqual(last(begin(pace=[0] * 26), stock(1000, 50), ahead(1000, 25)), [50000, 0])
        self.assertEqual(last(*THOUSAND, die(0, 1000), ahead(1000, 25)), [0, 0])

    def test_a_warmth_of_0_with_a_pace(self):
        # The fish grow, but the eggs never hatch.
        self.assertEqual(last(*BY_ONE, eggs(5), ahead(1000, 0)), [2000, 2000])

    def test_conv(self):
        for conv, feed in ((50, 1), (100, 1), (101, 2), (300, 3)):
            self.assertEqual(last(begin(conv=conv, pace=[11] * 26), stock(1, 1000), ahead(500, 0)), [1500, 500 * feed])

    def test_it_changes_nothing(self):
        before = [*HATCHING, stock(20, 30), day(3, 5), die(1, 2)]
        for n in (0, 1, 30, 1000):
            self.assertEqual(len(unchanged_by(self, before, ahead(n, 25), 2)), 2)

    def test_told_twice_alike(self):
        rows = answered(*HATCHING, ahead(70, 9), ahead(70, 9), ahead(1, 9), ahead(70, 9))[2:]
        self.assertEqual(rows[0], rows[1])
        self.assertEqual(rows[0], rows[3])


class Lasts(unittest.TestCase):
    def test_just_enough_and_one_less(self):
        for feed, days in ((0, 0), (1193, 0), (1194, 1), (2410, 1), (2411, 2), (3651, 2), (3652, 3)):
            self.assertEqual(last(*THOUSAND, lasts(feed, 10)), [days], feed)

    def test_no_feed(self):
        self.assertEqual(last(*BY_ONE, lasts(0, 10)), [0])
        self.assertEqual(last(*BY_ONE, lasts(1, 10)), [0])
        self.assertEqual(last(*BY_ONE, lasts(2, 10)), [1])

    def test_a_thousand_days(self):
        for feed, days in ((1997, 998), (1998, 999), (1999, 999), (2000, 1000), (2001, 1000), (2002, 1000),
                           (LARGEST, 1000)):
            self.assertEqual(last(*BY_ONE, lasts(feed, 10)), [days], feed)

    def test_a_need_of_0(self):
        nothing = ([begin()], [begin(), eggs(5)], [*THOUSAND, die(0, 1000)], [begin(pace=[0] * 26), stock(1000, 50)],
                   [begin(pace=[200] * 26), stock(1, 50)])
        for feed in (0, 1, LARGEST):
            self.assertEqual(last(*THOUSAND, lasts(feed, 0)), [1000])
            for before in nothing:
                self.assertEqual(last(*before, lasts(feed, 0)), [1000])

    def test_eggs_that_hatch_on_the_way(self):
        for feed, days in ((0, 2), (5939, 2), (5940, 3), (12171, 3), (12172, 4)):
            self.assertEqual(last(*HATCHING, lasts(feed, 10)), [days], feed)

    def test_eggs_that_never_hatch(self):
        self.assertEqual(last(*HATCHING, lasts(0, 0)), [1000])

    def test_all_lots(self):
        before = [*THOUSAND, stock(10, 100000)]
        for feed, days in ((3375, 0), (3376, 1), (6774, 1), (6775, 2)):
            self.assertEqual(last(*before, lasts(feed, 10)), [days], feed)

    def test_largest(self):
        before = [begin(conv=300, pace=[500] * 26)] + [stock(1000000, 100000)] * 10
        self.assertEqual(last(*before, lasts(LARGEST, 25)), [0])
        # 1363636362 a day for one lot of them, and a little more each day.
        self.assertEqual(last(*before[:2], lasts(LARGEST, 25)), [3])

    def test_too_warm(self):
        self.assertEqual(last(*THOUSAND, lasts(2985, 25)), [1])
        for t in (26, 27, LARGEST):
            for feed in (0, 1194, LARGEST):
                same_behind(self, THOUSAND, lasts(feed, t), -22, 1)
        self.assertEqual(last(begin(), lasts(0, 26)), [-22])

    def test_it_changes_nothing(self):
        before = [*HATCHING, stock(20, 30), day(3, 5), die(1, 2)]
        for feed in (0, 5, 100000, LARGEST):
            self.assertEqual(len(unchanged_by(self, before, lasts(feed, 25), 2)), 1)


class LongLine(unittest.TestCase):
    def test_a_hundred_calls_of_a_thousand_days_each(self):
        lots = [stock(1000000, 100000)] * 5 + [eggs(1000000)] * 5
        slow = [until(0, LARGEST, 1), eats(9, LARGEST, 25), ahead(1000, 25), lasts(LARGEST, 0)]
        line = [begin(hatch=1000, first=100, conv=300, pace=[0] + [500] * 25), *lots, *slow * 22, look(0)]
        self.assertEqual(len(line), 100)
        start = time.perf_counter()
        rows = answered(*line)
        self.assertLess(time.perf_counter() - start, 20)
        self.assertEqual(rows[11:15], rows[95:99])
        self.assertEqual([rows[11], rows[12], rows[14]], [[-33], [-33], [1000]])
        self.assertEqual(rows[99], [1, 1000000, 100000000000, 100000, 0])


if __name__ == "__main__":
    unittest.main()
