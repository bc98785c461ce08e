"""Point 4, sums and state: what was fed, eaten and lost since the beginning, and what there is today."""

import unittest

from tests.calls import LARGEST, ahead, answered, begin, best, could, day, die, eats, eggs, hatches, join, last, lasts
from tests.calls import look, needs, split, state, stock, sums, until

# At a warmth of 10: 50000, 50995, 52009; eaten are 1194, 1217.
THOUSAND = [begin(), stock(1000, 50)]
# 7 with a mass of 180, which doesn't divide.
SEVEN = [begin(), stock(3, 20), stock(4, 30), join(0, 1)]


class Sums(unittest.TestCase):
    def test_at_the_beginning(self):
        self.assertEqual(last(begin(), sums()), [0, 0, 0, 0, 0])
        self.assertEqual(last(*THOUSAND, stock(2, 3), eggs(9), sums()), [0, 0, 0, 0, 50006])

    def test_just_enough_feed(self):
        self.assertEqual(last(*THOUSAND, day(10, 1194), sums()), [1194, 1194, 0, 0, 50995])

    def test_too_little_feed(self):
        self.assertEqual(last(*THOUSAND, day(10, 1193), sums()), [1193, 1193, 0, 0, 50994])
        self.assertEqual(last(*THOUSAND, day(10, 0), sums()), [0, 0, 0, 0, 50000])

    def test_too_little_feed_that_is_left_by_rounding(self):
        # 1193 and 2181 of 3375 are eaten.
        self.assertEqual(last(*THOUSAND, stock(10, 100000), day(10, 3375), sums()), [3375, 3374, 0, 0, 1052811])

    def test_too_much_feed(self):
        self.assertEqual(last(*THOUSAND, day(10, 5000), sums()), [5000, 1194, 0, 0, 50995])
        self.assertEqual(last(begin(), day(10, 5000), sums()), [5000, 0, 0, 0, 0])
        self.assertEqual(last(begin(), eggs(4), day(10, 5000), sums()), [5000, 0, 0, 0, 0])

    def test_days_one_behind_another(self):
        self.assertEqual(last(*THOUSAND, day(10, 1194), day(10, 5000), day(0, 7), sums()), [6201, 2411, 0, 0, 52009])

    def test_largest(self):
        before = [begin(conv=300, pace=[500] * 26)] + [stock(1000000, 100000)] * 10
        self.assertEqual(last(*before, *[day(25, LARGEST)] * 3, sums())[:2], [3 * 4294967295, 3 * 4294967290])

    def test_died(self):
        self.assertEqual(last(*THOUSAND, die(0, 40), sums()), [0, 0, 40, 2000, 48000])
        self.assertEqual(last(*THOUSAND, die(0, 40), die(0, 0), die(0, 960), sums()), [0, 0, 1000, 50000, 0])

    def test_died_of_a_mass_that_does_not_divide(self):
        for n, mass in ((0, 0), (1, 25), (2, 51), (3, 77), (4, 102), (5, 128), (6, 154), (7, 180)):
            self.assertEqual(last(*SEVEN, die(0, n), sums()), [0, 0, n, mass, 180 - mass])

    def test_died_one_behind_another(self):
        # 25 of 180, then 155 // 6 = 25, then 130 // 5 = 26.
        self.assertEqual(last(*SEVEN, die(0, 1), die(0, 1), die(0, 1), sums()), [0, 0, 3, 76, 104])

    def test_died_of_several_lots(self):
        rows = answered(begin(), stock(10, 7), eggs(20), stock(5, 3), die(0, 4), die(1, 5), die(2, 1), sums())
        self.assertEqual(rows[-1], [0, 0, 10, 31, 54])

    def test_died_behind_days(self):
        # 50995 * 100 // 1000 = 5099
        self.assertEqual(last(*THOUSAND, day(10, 2000), die(0, 100), sums()), [2000, 1194, 100, 5099, 45896])

    def test_split_and_join_count_as_nothing(self):
        self.assertEqual(last(*SEVEN, split(0, 3), sums()), [0, 0, 0, 0, 180])
        self.assertEqual(last(*SEVEN, split(0, 3), join(1, 2), sums()), [0, 0, 0, 0, 180])
        self.assertEqual(last(*SEVEN, split(0, 3), die(2, 1), join(0, 2), sums()), [0, 0, 1, 25, 155])

    def test_hatched_eggs_weigh(self):
        self.assertEqual(last(begin(hatch=10), eggs(50), day(10, 3), sums()), [3, 0, 0, 0, 100])

    def test_a_refusal_counts_as_nothing(self):
        refused = [day(26, 500), die(0, 1001), die(1, 1), die(LARGEST, LARGEST), split(0, 0), join(0, 0), eggs(0),
                   stock(0, 0), begin(hatch=0)]
        rows = answered(*THOUSAND, day(10, 1500), die(0, 10), sums(), *refused, sums())
        self.assertEqual(rows[4], [1500, 1194, 10, 509, 50486])
        self.assertEqual(rows[-1], rows[4])

    def test_behind_another_begin(self):
        before = [*THOUSAND, day(10, 1500), die(0, 10)]
        self.assertEqual(last(*before, begin(), sums()), [0, 0, 0, 0, 0])
        self.assertEqual(last(*before, begin(), stock(1000, 50), day(10, 1194), die(0, 1), sums()),
                         [1194, 1194, 1, 50, 50945])


class State(unittest.TestCase):
    def test_at_the_beginning(self):
        self.assertEqual(last(begin(), state()), [0, 0, 0])

    def test_lots(self):
        rows = answered(begin(), stock(10, 7), state(), eggs(20), state(), stock(5, 3), state())
        self.assertEqual(rows[2::2], [[0, 1, 10], [0, 2, 30], [0, 3, 35]])

    def test_ten_lots(self):
        before = [begin()] + [stock(1000000, 100000), eggs(1000000)] * 5
        self.assertEqual(last(*before, state()), [0, 10, 10000000])
        self.assertEqual(last(*before, eggs(1), state()), [0, 10, 10000000])

    def test_days(self):
        rows = answered(*THOUSAND, *[day(10, 1194), state(), day(0, 0), state(), day(25, LARGEST), state()])
        self.assertEqual(rows[3::2], [[1, 1, 1000], [2, 1, 1000], [3, 1, 1000]])
        self.assertEqual(last(begin(), *[day(25, 0)] * 98, state()), [98, 0, 0])

    def test_hatching_changes_no_number(self):
        self.assertEqual(last(begin(hatch=10), eggs(50), day(10, 3), state()), [1, 1, 50])

    def test_die(self):
        self.assertEqual(last(*THOUSAND, die(0, 40), state()), [0, 1, 960])
        self.assertEqual(last(*THOUSAND, eggs(7), die(1, 3), state()), [0, 2, 1004])

    def test_lots_of_none_are_lots(self):
        self.assertEqual(last(*THOUSAND, die(0, 1000), state()), [0, 1, 0])

    def test_split_and_join(self):
        self.assertEqual(last(*SEVEN, state()), [0, 2, 7])
        self.assertEqual(last(*SEVEN, split(0, 3), state()), [0, 3, 7])
        self.assertEqual(last(*SEVEN, split(0, 7), state()), [0, 3, 7])
        self.assertEqual(last(*SEVEN, split(0, 3), join(1, 2), state()), [0, 3, 7])

    def test_a_refusal_changes_nothing(self):
        refused = [day(26, 500), die(0, 1001), split(0, 0), split(0, 1001), join(0, 0), eggs(0), stock(0, 0),
                   begin(conv=0)]
        self.assertEqual(last(*THOUSAND, day(3, 0), *refused, state()), [1, 1, 1000])

    def test_behind_another_begin(self):
        before = [*THOUSAND, day(10, 1500), die(0, 10), begin()]
        self.assertEqual(last(*before, state()), [0, 0, 0])
        self.assertEqual(last(*before, eggs(3), day(1, 1), state()), [1, 1, 3])


class TellingAlone(unittest.TestCase):
    def test_calls_that_tell_change_neither(self):
        telling = [look(0), needs(10), could(0, 10), until(0, 90, 25), until(1, LARGEST, 25), eats(0, 90, 25),
                   hatches(1, 3), hatches(0, 3), ahead(1000, 25), lasts(LARGEST, 25), best(0), sums(), state()]
        rows = answered(*THOUSAND, eggs(30), day(10, 1500), die(0, 10), sums(), state(), *telling, sums(), state())
        self.assertEqual(rows[5:7], [[1500, 1194, 10, 509, 50486], [1, 2, 1020]])
        self.assertEqual(rows[-2:], rows[5:7])

    def test_numbers_are_those_of_look(self):
        before = [*THOUSAND, eggs(30), stock(7, 777), day(10, 900), die(0, 10), split(2, 3), join(0, 3), die(2, 4)]
        rows = answered(*before, *[look(i) for i in range(4)], sums(), state())[len(before):]
        self.assertEqual(rows[4][4], sum(row[2] for row in rows[:4]))
        self.assertEqual(rows[5], [1, 4, sum(row[1] for row in rows[:4])])


if __name__ == "__main__":
    unittest.main()
