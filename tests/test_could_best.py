"""Point 3, could, and point 4, best: by how much a lot could grow, and at what warmth most."""

import unittest

from tests.calls import LARGEST, PACE, answered, begin, best, could, day, die, eggs, join, last, same_behind, split, stock
from tests.calls import unchanged_by

# At a warmth of 10 the pace is 200: 50000 * 200 // 10050 = 995, for which 1194 is needed.
THOUSAND = [begin(), stock(1000, 50)]


class Could(unittest.TestCase):
    def test_ordinary(self):
        self.assertEqual(last(*THOUSAND, could(0, 10)), [995, 1194])

    def test_the_heavier_the_less(self):
        # 1000000 * 200 // 110000 = 1818
        self.assertEqual(last(begin(), stock(10, 100000), could(0, 10)), [1818, 2182])

    def test_that_lot_alone(self):
        before = [*THOUSAND, stock(10, 100000), eggs(7)]
        rows = answered(*before, could(0, 10), could(1, 10), could(2, 10))[4:]
        self.assertEqual(rows, [[995, 1194], [1818, 2182], [0, 0]])

    def test_each_warmth(self):
        pace = list(range(475, 501))
        rows = answered(begin(conv=100, pace=pace), stock(1000, 50), *[could(0, t) for t in range(26)])[2:]
        self.assertEqual(rows, [[50000 * p // 10050] * 2 for p in pace])

    def test_conv(self):
        for conv, need in ((50, 498), (99, 986), (100, 995), (101, 1005), (300, 2985)):
            self.assertEqual(last(begin(conv=conv), stock(1000, 50), could(0, 10)), [995, need])

    def test_rounded(self):
        # 50 * 200 is just below 10050, 50 * 201 is 10050.
        for pace, conv, told in ((200, 300, [0, 0]), (201, 50, [1, 1]), (201, 100, [1, 1]), (201, 101, [1, 2])):
            self.assertEqual(last(begin(conv=conv, pace=[pace] * 26), stock(1, 50), could(0, 3)), told)

    def test_what_each_weighs_is_rounded_down(self):
        # 2 with a mass of 429 weigh 214 each: 429 * 500 // 10214 = 21, where 214.5 or 215 would make 20.
        before = [begin(conv=100, pace=[500] * 26), stock(1, 214), stock(1, 215), join(0, 1)]
        self.assertEqual(last(*before, could(0, 0)), [21, 21])

    def test_nothing(self):
        self.assertEqual(last(*THOUSAND, could(0, 0)), [0, 0])
        self.assertEqual(last(begin(pace=[0] * 26), stock(1000, 50), could(0, 25)), [0, 0])
        self.assertEqual(last(begin(pace=[500] * 26), eggs(1000000), could(0, 25)), [0, 0])
        self.assertEqual(last(*THOUSAND, die(0, 1000), could(0, 25)), [0, 0])
        self.assertEqual(last(begin(), eggs(5), die(0, 5), could(0, 25)), [0, 0])

    def test_a_warmth_of_0_with_a_pace(self):
        self.assertEqual(last(begin(pace=[500] * 26), stock(1000, 50), could(0, 0)), [2487, 2985])

    def test_hatched_eggs(self):
        before = [begin(hatch=10, first=100, pace=[500] * 26), eggs(1000)]
        self.assertEqual(answered(*before, day(9, 0), could(0, 1), day(1, 0), could(0, 1))[3::2], [[0, 0], [4950, 5940]])

    def test_too_warm(self):
        self.assertEqual(last(*THOUSAND, could(0, 25)), [2487, 2985])
        for t in (26, 27, LARGEST):
            same_behind(self, THOUSAND, could(0, t), -22, 1)

    def test_no_such_lot_is_told_first(self):
        self.assertEqual(last(begin(), could(0, 0)), [-2])
        for i in (1, 2, LARGEST):
            for t in (0, 25, 26, LARGEST):
                same_behind(self, THOUSAND, could(i, t), -2, 1)

    def test_it_changes_nothing(self):
        before = [*THOUSAND, eggs(5), day(10, 600), die(0, 3)]
        self.assertEqual(unchanged_by(self, before, could(1, 25), 2), [0, 0])
        self.assertGreater(unchanged_by(self, before, could(0, 25), 2)[0], 0)


class Best(unittest.TestCase):
    def test_ordinary(self):
        pace = [50] * 13 + [400] + [70] * 12
        self.assertEqual(last(begin(pace=pace), stock(1000, 50), best(0)), [13, 50000 * 400 // 10050])

    def test_at_either_end(self):
        self.assertEqual(last(*THOUSAND, best(0)), [25, 2487])
        self.assertEqual(last(begin(pace=PACE[::-1]), stock(1000, 50), best(0)), [0, 2487])

    def test_each_warmth(self):
        for t in range(26):
            pace = [499] * 26
            pace[t] = 500
            self.assertEqual(last(begin(pace=pace), stock(1000, 50), best(0)), [t, 2487])

    def test_of_several_the_least(self):
        for at in ((4, 9), (0, 25), (24, 25), (7, 8, 20)):
            pace = [300 if t in at else 299 for t in range(26)]
            self.assertEqual(last(begin(pace=pace), stock(1000, 50), best(0)), [at[0], 50000 * 300 // 10050])
        self.assertEqual(last(begin(pace=[500] * 26), stock(1000, 50), best(0)), [0, 2487])

    def test_it_goes_by_growth_not_by_pace(self):
        # All of 201 to 401 make a growth of 1: the fifth is the least, though a later pace is more.
        pace = [200] * 5 + [201, 300, 401, 250] + [0] * 17
        self.assertEqual(last(begin(pace=pace), stock(1, 50), best(0)), [5, 1])
        pace[8] = 402
        self.assertEqual(last(begin(pace=pace), stock(1, 50), best(0)), [8, 2])

    def test_nothing_at_any_warmth(self):
        self.assertEqual(last(begin(pace=[0] * 26), stock(1000, 50), best(0)), [0, 0])
        self.assertEqual(last(begin(), stock(1, 1), best(0)), [0, 0])

    def test_eggs(self):
        self.assertEqual(last(begin(), eggs(1000000), best(0)), [0, 0])
        self.assertEqual(last(begin(hatch=10, first=100), eggs(1000), day(10, 0), best(0)), [25, 4950])

    def test_a_lot_of_none(self):
        self.assertEqual(last(*THOUSAND, die(0, 1000), best(0)), [0, 0])
        self.assertEqual(last(*THOUSAND, split(0, 1000), best(0)), [0, 0])
        self.assertEqual(last(begin(), eggs(5), die(0, 5), best(0)), [0, 0])

    def test_that_lot_alone(self):
        rows = answered(*THOUSAND, eggs(5), stock(10, 100000), best(0), best(1), best(2))[4:]
        self.assertEqual(rows, [[25, 2487], [0, 0], [25, 1000000 * 500 // 110000]])

    def test_today(self):
        self.assertEqual(last(*THOUSAND, day(10, 1194), best(0)), [25, 50995 * 500 // 10050])

    def test_no_such_lot(self):
        self.assertEqual(last(begin(), best(0)), [-2])
        for i in (1, 2, LARGEST):
            same_behind(self, THOUSAND, best(i), -2, 1)

    def test_it_changes_nothing(self):
        self.assertEqual(unchanged_by(self, [*THOUSAND, eggs(5), day(10, 1194)], best(0), 2), [25, 2537])


if __name__ == "__main__":
    unittest.main()
