"""Point 2, die, split and join: parts of lots, and lots put together."""

import unittest

from tests.calls import LARGEST, answered, begin, day, die, eggs, join, last, look, same_behind, split, stock

# 3 that weigh 20 each and 4 that weigh 30 each: 7 with a mass of 180, which doesn't divide.
SEVEN = [begin(), stock(3, 20), stock(4, 30), join(0, 1)]


class Die(unittest.TestCase):
    def test_ordinary(self):
        self.assertEqual(answered(begin(), stock(100, 30), die(0, 40), look(0))[2:], [[60], [1, 60, 1800, 30, 0]])

    def test_mass_that_does_not_divide(self):
        for n, mass in ((0, 180), (1, 155), (2, 129), (3, 103), (4, 78), (5, 52), (6, 26), (7, 0)):
            rows = answered(*SEVEN, die(0, n), look(0))[4:]
            self.assertEqual(rows, [[7 - n], [1, 7 - n, mass, mass // (7 - n) if n < 7 else 0, 0]])

    def test_eggs(self):
        rows = answered(begin(), eggs(50), day(9, 0), die(0, 20), look(0))[3:]
        self.assertEqual(rows, [[30], [0, 30, 0, 0, 9]])

    def test_fewer_than_n(self):
        for ahead in ([begin(), stock(5, 7)], [begin(), eggs(5)]):
            self.assertEqual(last(*ahead, die(0, 5)), [0])
            for n in (6, 7, LARGEST):
                same_behind(self, ahead, die(0, n), -12, 1)

    def test_a_lot_of_none(self):
        for ahead in ([begin(), stock(5, 7), die(0, 5)], [begin(), eggs(5), die(0, 5)]):
            self.assertEqual(last(*ahead, die(0, 0)), [0])
            self.assertEqual(last(*ahead, die(0, 0), look(0))[1:], [0, 0, 0, 0])
            same_behind(self, ahead, die(0, 1), -12, 1)

    def test_a_lot_of_one(self):
        self.assertEqual(answered(begin(), stock(1, 7), die(0, 0), look(0))[2:], [[1], [1, 1, 7, 7, 0]])
        self.assertEqual(answered(begin(), stock(1, 7), die(0, 1), look(0))[2:], [[0], [1, 0, 0, 0, 0]])

    def test_no_such_lot(self):
        self.assertEqual(last(begin(), die(0, 0)), [-2])
        for i in (1, 2, LARGEST):
            for n in (0, 1, 6, LARGEST):
                same_behind(self, [begin(), stock(5, 7)], die(i, n), -2, 1)

    def test_the_other_lots_are_as_they_were(self):
        rows = answered(begin(), stock(5, 7), stock(6, 8), stock(7, 9), die(1, 2), look(0), look(1), look(2))[4:]
        self.assertEqual(rows, [[4], [1, 5, 35, 7, 0], [1, 4, 32, 8, 0], [1, 7, 63, 9, 0]])


class Split(unittest.TestCase):
    def test_ordinary(self):
        rows = answered(begin(), stock(100, 30), eggs(5), split(0, 40), look(0), look(1), look(2))[3:]
        self.assertEqual(rows, [[2], [1, 60, 1800, 30, 0], [0, 5, 0, 0, 0], [1, 40, 1200, 30, 0]])

    def test_mass_that_does_not_divide(self):
        for n, part in ((1, 25), (2, 51), (3, 77), (4, 102), (5, 128), (6, 154), (7, 180)):
            rows = answered(*SEVEN, split(0, n), look(0), look(2))[4:]
            rest = 180 - part
            self.assertEqual(rows[0], [2])
            self.assertEqual(rows[1], [1, 7 - n, rest, rest // (7 - n) if n < 7 else 0, 0])
            self.assertEqual(rows[2], [1, n, part, part // n, 0])

    def test_a_lot_of_one(self):
        rows = answered(begin(), stock(1, 7), split(0, 1), look(0), look(1))[2:]
        self.assertEqual(rows, [[1], [1, 0, 0, 0, 0], [1, 1, 7, 7, 0]])

    def test_eggs_keep_their_degree_days(self):
        rows = answered(begin(), eggs(50), day(9, 0), split(0, 20), look(0), look(1))[3:]
        self.assertEqual(rows, [[1], [0, 30, 0, 0, 9], [0, 20, 0, 0, 9]])

    def test_hatched_eggs_keep_their_degree_days(self):
        rows = answered(begin(hatch=8, first=3), eggs(50), day(9, 0), split(0, 20), look(0), look(1))[3:]
        self.assertEqual(rows, [[1], [1, 30, 90, 3, 9], [1, 20, 60, 3, 9]])

    def test_parts_of_eggs_hatch_on_their_own(self):
        rows = answered(begin(hatch=18, first=3), eggs(50), day(9, 0), split(0, 20), die(0, 1), day(9, 0),
                        look(0), look(1))[5:]
        self.assertEqual(rows, [[0, 147], [1, 29, 87, 3, 18], [1, 20, 60, 3, 18]])

    def test_parts_grow_on_their_own(self):
        rows = answered(begin(), stock(100, 30), split(0, 40), die(1, 40), day(10, 9000), look(0), look(1))[4:]
        # 1800 * 200 // 10030 = 35, and 42 is needed for that.
        self.assertEqual(rows, [[42, 1835], [1, 60, 1835, 30, 0], [1, 0, 0, 0, 0]])

    def test_n_is_0(self):
        for ahead in ([begin(), stock(5, 7)], [begin(), eggs(5)], [begin(), eggs(5), die(0, 5)]):
            same_behind(self, ahead, split(0, 0), -22, 1)

    def test_fewer_than_n(self):
        for ahead in ([begin(), stock(5, 7)], [begin(), eggs(5)]):
            self.assertEqual(last(*ahead, split(0, 5)), [1])
            for n in (6, 7, LARGEST):
                same_behind(self, ahead, split(0, n), -12, 1)
        same_behind(self, [begin(), stock(5, 7), die(0, 5)], split(0, 1), -12, 1)

    def test_ten_lots(self):
        nine = [begin()] + [stock(5, 7)] * 9
        self.assertEqual(last(*nine, split(3, 2)), [9])
        same_behind(self, [*nine, eggs(1)], split(3, 2), -28, 10)
        same_behind(self, [*nine, eggs(1)], split(3, 5), -28, 10)

    def test_the_one_told_first(self):
        ten = [begin()] + [stock(5, 7)] * 10
        for i in (10, LARGEST):
            for n in (0, 5, 6, LARGEST):
                same_behind(self, ten, split(i, n), -2, 10)
        same_behind(self, ten, split(0, 0), -22, 10)
        same_behind(self, ten, split(0, 6), -12, 10)
        self.assertEqual(last(begin(), split(0, 0)), [-2])


class Join(unittest.TestCase):
    def test_ordinary(self):
        rows = answered(begin(), stock(100, 30), stock(50, 10), join(0, 1), look(0), look(1), look(2))[3:]
        self.assertEqual(rows, [[150], [1, 150, 3500, 23, 0], [1, 0, 0, 0, 0], [-2]])

    def test_the_other_way(self):
        rows = answered(begin(), stock(100, 30), stock(50, 10), join(1, 0), look(0), look(1))[3:]
        self.assertEqual(rows, [[150], [1, 0, 0, 0, 0], [1, 150, 3500, 23, 0]])

    def test_eggs(self):
        rows = answered(begin(), eggs(3), eggs(4), day(9, 0), join(1, 0), look(0), look(1))[4:]
        self.assertEqual(rows, [[7], [0, 0, 0, 0, 9], [0, 7, 0, 0, 9]])

    def test_above_a_million(self):
        rows = answered(begin(), stock(1000000, 100000), stock(1000000, 100000), join(0, 1), look(0))[3:]
        self.assertEqual(rows, [[2000000], [1, 2000000, 200000000000, 100000, 0]])

    def test_lots_of_none(self):
        rows = answered(begin(), stock(5, 7), stock(6, 8), join(0, 1), join(0, 1), look(0), join(1, 0), look(0), look(1))
        self.assertEqual(rows[3:], [[11], [11], [1, 11, 83, 7, 0], [11], [1, 0, 0, 0, 0], [1, 11, 83, 7, 0]])
        self.assertEqual(last(begin(), eggs(1), eggs(1), die(0, 1), die(1, 1), join(0, 1)), [0])

    def test_no_such_lot(self):
        ahead = [begin(), stock(5, 7), stock(5, 7)]
        for i, j in ((0, 2), (2, 0), (2, 2), (2, 3), (LARGEST, 0), (0, LARGEST), (LARGEST, LARGEST)):
            same_behind(self, ahead, join(i, j), -2, 2)
        self.assertEqual(last(begin(), join(0, 0)), [-2])

    def test_i_is_j(self):
        ahead = [begin(), stock(5, 7), eggs(5)]
        for i in (0, 1):
            same_behind(self, ahead, join(i, i), -22, 2)

    def test_one_is_hatched_and_the_other_is_not(self):
        for ahead in ([begin(), stock(5, 7), eggs(5)], [begin(), stock(5, 7), eggs(5), die(0, 5), die(1, 5)]):
            same_behind(self, ahead, join(0, 1), -33, 2)
            same_behind(self, ahead, join(1, 0), -33, 2)

    def test_degree_days_differ(self):
        of_eggs = [begin(), eggs(5), day(9, 0), eggs(6)]
        hatched = [begin(hatch=9), eggs(5), day(9, 0), stock(6, 2)]
        for ahead in (of_eggs, hatched, [*of_eggs, die(1, 6)], [*hatched, die(0, 5)]):
            same_behind(self, ahead, join(0, 1), -33, 2)
            same_behind(self, ahead, join(1, 0), -33, 2)

    def test_degree_days_of_hatched_lots_alike(self):
        # One is hatched on the first day, the other on the second, both with 20.
        ahead = [begin(hatch=10), eggs(5), day(20, 0), eggs(6), day(20, 0)]
        self.assertEqual(last(*ahead, join(0, 1)), [11])
        self.assertEqual(last(*ahead, join(0, 1), look(0)), [1, 11, 22, 2, 20])

    def test_a_day_of_no_degrees_keeps_eggs_alike(self):
        self.assertEqual(last(begin(), eggs(5), day(0, 0), eggs(6), join(0, 1)), [11])

    def test_room_is_not_given_back(self):
        ten = [begin()] + [stock(5, 7)] * 10
        same_behind(self, [*ten, join(0, 1)], eggs(1), -28, 10)


class PartedAndJoined(unittest.TestCase):
    def test_is_as_it_was(self):
        for n in range(1, 8):
            rows = answered(*SEVEN, look(0), split(0, n), join(0, 2), look(0), look(2))[4:]
            self.assertEqual(rows[3], rows[0])
            self.assertEqual(rows[2:3] + rows[4:], [[7], [1, 0, 0, 0, 0]])

    def test_nothing_is_lost(self):
        for n in range(1, 8):
            rows = answered(*SEVEN, split(0, n), look(0), look(2))[5:]
            self.assertEqual(rows[0][1] + rows[1][1], 7)
            self.assertEqual(rows[0][2] + rows[1][2], 180)


if __name__ == "__main__":
    unittest.main()
