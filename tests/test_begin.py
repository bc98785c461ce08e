"""Point 1, begin: what it refuses and takes, and that nothing is there behind it."""

import unittest

from tests.calls import (LARGEST, ahead, answered, begin, best, could, day, die, eats, eggs, hatches, join, last, lasts,
                         look, needs, same_behind, split, state, stock, sums, until)


class BeginEdges(unittest.TestCase):
    def test_ordinary(self):
        self.assertEqual(answered(begin()), [[0]])

    def test_hatch(self):
        for hatch in (1, 2, 500, 1000):
            self.assertEqual(last(begin(hatch=hatch)), [0], hatch)
        for hatch in (0, 1001, LARGEST):
            self.assertEqual(last(begin(hatch=hatch)), [-22], hatch)

    def test_first(self):
        for first in (1, 2, 50, 100):
            self.assertEqual(last(begin(first=first)), [0], first)
        for first in (0, 101, LARGEST):
            self.assertEqual(last(begin(first=first)), [-22], first)

    def test_conv(self):
        for conv in (50, 51, 100, 300):
            self.assertEqual(last(begin(conv=conv)), [0], conv)
        for conv in (0, 49, 301, LARGEST):
            self.assertEqual(last(begin(conv=conv)), [-22], conv)

    def test_how_many_numbers_pace_has(self):
        for many in range(31):
            expected = [0] if many == 26 else [-22]
            self.assertEqual(last(begin(pace=[7] * many)), expected, many)

    def test_largest_of_pace(self):
        for at in range(26):
            for number, expected in ((0, 0), (500, 0), (501, -22), (LARGEST, -22)):
                pace = [3] * 26
                pace[at] = number
                self.assertEqual(last(begin(pace=pace)), [expected], (at, number))

    def test_all_of_pace_at_its_edges(self):
        self.assertEqual(last(begin(pace=[0] * 26)), [0])
        self.assertEqual(last(begin(pace=[500] * 26)), [0])

    def test_everything_wrong(self):
        self.assertEqual(last(begin(0, 0, 0, [])), [-22])
        self.assertEqual(last(begin(LARGEST, LARGEST, LARGEST, [LARGEST] * 30)), [-22])


class NotBegun(unittest.TestCase):
    # Wrong numbers too: -61 is told ahead of all other refusals.
    others = [eggs(5), eggs(0), stock(5, 5), stock(0, 0), day(10, 5), day(26, 5), die(0, 0), split(0, 0),
              join(0, 0), join(0, 1), look(0), needs(10), needs(LARGEST)]
    later = [could(0, 0), could(0, 26), until(0, 0, 0), until(0, 1, 26), eats(0, 0, 0), eats(0, 1, 26), hatches(0, 0),
             hatches(0, 26), ahead(0, 0), ahead(1001, 26), lasts(0, 0), lasts(0, 26), best(0), best(LARGEST), sums(),
             state()]
    wrong_begins = [begin(hatch=0), begin(first=0), begin(conv=49), begin(pace=[]), begin(pace=[1] * 25),
                    begin(pace=[1] * 30), begin(pace=[1] * 25 + [501])]

    def test_ahead_of_any_begin(self):
        for call in self.others + self.later:
            self.assertEqual(answered(call), [[-61]], call)

    def test_one_behind_another(self):
        calls = self.others + self.later + self.others
        self.assertEqual(answered(*calls), [[-61]] * len(calls))

    def test_behind_a_refused_begin(self):
        for wrong in self.wrong_begins:
            for call in self.others + self.later:
                self.assertEqual(answered(wrong, call), [[-22], [-61]], (wrong, call))

    def test_what_was_refused_left_nothing(self):
        self.assertEqual(answered(eggs(5), stock(5, 5), begin(), look(0), eggs(3)), [[-61], [-61], [0], [-2], [0]])

    def test_a_begin_behind_a_refused_one(self):
        self.assertEqual(answered(begin(conv=0), eggs(5), begin(), eggs(5)), [[-22], [-61], [0], [0]])


class BeginAgain(unittest.TestCase):
    def test_nothing_is_there(self):
        rows = answered(begin(), stock(10, 100), eggs(5), day(10, 50), begin(), look(0), look(1), needs(25), day(25, 9))
        self.assertEqual(rows[4:], [[0], [-2], [-2], [0], [0, 0]])

    def test_numbers_of_lots_start_at_0(self):
        self.assertEqual(answered(begin(), eggs(1), eggs(2), begin(), eggs(3), look(0))[3:], [[0], [0], [0, 3, 0, 0, 0]])

    def test_ten_lots_fit_again(self):
        ten = [eggs(1)] * 10
        rows = answered(begin(), *ten, eggs(1), begin(), *ten, eggs(1))
        self.assertEqual(rows[11:], [[-28], [0]] + [[i] for i in range(10)] + [[-28]])

    def test_told_anew(self):
        new = begin(hatch=7, first=9, conv=300, pace=[500] * 26)
        rows = answered(begin(), new, eggs(4), stock(1000, 50), needs(0), day(7, 0), look(0))
        # 50000 * 500 // 10050 = 2487, three times that is needed.
        self.assertEqual(rows[4:], [[7461], [0, 50036], [1, 4, 36, 9, 7]])

    def test_a_refused_one_changes_nothing(self):
        before = [begin(), stock(1000, 50), eggs(30), day(9, 100)]
        for wrong in (begin(0, 9, 300, [1] * 26), begin(7, 0, 300, [1] * 26), begin(7, 9, 301, [1] * 26),
                      begin(7, 9, 300, [1] * 25), begin(7, 9, 300, [1] * 27), begin(7, 9, 300, [1] * 25 + [501])):
            same_behind(self, before, wrong, -22, 2)
            # What hatch and first are is seen only by a lot that hatches.
            hatched = answered(*before, wrong, day(25, 0), day(25, 0), day(25, 0), look(1), day(16, 0), look(1))
            self.assertEqual(hatched[-3:], [[0, 30, 0, 0, 84], [0, 50083 + 60], [1, 30, 60, 2, 100]])

    def test_day_0_and_sums_of_nothing(self):
        rows = answered(begin(), stock(10, 100), eggs(5), day(10, 50), day(3, 0), die(0, 4), begin(), sums(), state())
        self.assertEqual(rows[7:], [[0, 0, 0, 0, 0], [0, 0, 0]])


if __name__ == "__main__":
    unittest.main()
