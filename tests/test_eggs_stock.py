"""Point 1, eggs and stock, and point 2, look: what a new lot is."""

import unittest

from tests.calls import LARGEST, answered, begin, eggs, last, look, same_behind, split, stock

TEN = [eggs(3), stock(4, 5)] * 5


class Eggs(unittest.TestCase):
    def test_ordinary(self):
        self.assertEqual(answered(begin(), eggs(500), look(0)), [[0], [0], [0, 500, 0, 0, 0]])

    def test_edges(self):
        for n in (1, 2, 999999, 1000000):
            self.assertEqual(answered(begin(), eggs(n), look(0))[1:], [[0], [0, n, 0, 0, 0]])
        for n in (0, 1000001, LARGEST):
            same_behind(self, [begin(), stock(7, 7)], eggs(n), -22, 1)


class Stock(unittest.TestCase):
    def test_ordinary(self):
        self.assertEqual(answered(begin(), stock(500, 30), look(0)), [[0], [0], [1, 500, 15000, 30, 0]])

    def test_edges_of_n(self):
        for n in (1, 2, 999999, 1000000):
            self.assertEqual(answered(begin(), stock(n, 3), look(0))[1:], [[0], [1, n, 3 * n, 3, 0]])
        for n in (0, 1000001, LARGEST):
            same_behind(self, [begin(), stock(7, 7)], stock(n, 3), -22, 1)

    def test_edges_of_w(self):
        for w in (1, 2, 99999, 100000):
            self.assertEqual(answered(begin(), stock(6, w), look(0))[1:], [[0], [1, 6, 6 * w, w, 0]])
        for w in (0, 100001, LARGEST):
            same_behind(self, [begin(), stock(7, 7)], stock(6, w), -22, 1)

    def test_largest(self):
        self.assertEqual(last(begin(), stock(1000000, 100000), look(0)), [1, 1000000, 100000000000, 100000, 0])


class TenLots(unittest.TestCase):
    def test_numbers(self):
        self.assertEqual(answered(begin(), *TEN)[1:], [[i] for i in range(10)])

    def test_the_tenth_is_taken(self):
        for tenth in (eggs(9), stock(9, 9)):
            self.assertEqual(last(begin(), *TEN[:9], tenth), [9])

    def test_an_eleventh_is_not(self):
        for call in (eggs(1), eggs(1000000), stock(1, 1), stock(1000000, 100000)):
            same_behind(self, [begin(), *TEN], call, -28, 10)

    def test_wrong_numbers_are_told_first(self):
        for call in (eggs(0), eggs(1000001), stock(0, 1), stock(1000001, 1), stock(1, 0), stock(1, 100001)):
            same_behind(self, [begin(), *TEN], call, -22, 10)

    def test_lots_of_none_count(self):
        ahead = [begin(), stock(2, 9)] + [split(i, 2) for i in range(9)]
        self.assertEqual(answered(*ahead, look(0), look(9))[-2:], [[1, 0, 0, 0, 0], [1, 2, 18, 9, 0]])
        same_behind(self, ahead, eggs(1), -28, 10)
        same_behind(self, ahead, stock(1, 1), -28, 10)


class Look(unittest.TestCase):
    def test_no_such_lot(self):
        for i in (0, 1, LARGEST):
            self.assertEqual(last(begin(), look(i)), [-2])
        for i in (2, 3, 10, LARGEST):
            self.assertEqual(last(begin(), eggs(1), eggs(2), look(i)), [-2])

    def test_each_lot_by_its_number(self):
        rows = answered(begin(), *TEN, *[look(i) for i in range(11)])[11:]
        self.assertEqual(rows, [[0, 3, 0, 0, 0], [1, 4, 20, 5, 0]] * 5 + [[-2]])

    def test_it_changes_nothing(self):
        rows = answered(begin(), *TEN, *[look(i) for i in range(10)] * 2)
        self.assertEqual(rows[11:21], rows[21:])


if __name__ == "__main__":
    unittest.main()
