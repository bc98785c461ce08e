"""What holds over the whole program, a to e, over several farms."""

import unittest

from tests.calls import LARGEST, ahead, answered, begin, could, day, die, eats, eggs, hatches, join, last, lasts, look
from tests.calls import needs, split, state, stock, sums, until

UNEVEN = [(37 * t) % 101 for t in range(26)]
STEEP = [min(500, t * t) for t in range(26)]

# Each with 1 to 10 lots: eggs, fish, lots of none, masses that don't divide.
FARMS = (
    [begin(), stock(1000, 50)],
    [begin(hatch=55, first=100, conv=50, pace=STEEP), eggs(333), stock(77, 333), stock(5, 99999), split(1, 30)],
    [begin(hatch=1, first=1, conv=300, pace=[500] * 26), eggs(40), stock(13, 7), day(3, 1), stock(1, 1), split(1, 6)],
    [begin(hatch=1000, conv=130, pace=UNEVEN), stock(3, 2000), stock(4, 3000), join(0, 1), die(0, 2), eggs(9)],
    [begin(hatch=40, first=33, conv=99, pace=STEEP), eggs(700), day(9, 0), eggs(900), day(2, 0), stock(10, 10),
     split(0, 250), die(1, 900), split(2, 3), stock(1000000, 100000), eggs(1), eggs(2), stock(99, 1001), stock(6, 60)],
    [begin(pace=[0] * 26), stock(50, 50), eggs(50)],
)
WARMTHS = (0, 1, 7, 16, 25)
# So many days of one warmth fit into a line beside what the farm begins with.
DAYS = 70


def lots_of(farm):
    return last(*farm, state())[1]


def looks(lots):
    return [look(i) for i in range(lots)]


def day_seen(farm, t, feed):
    """What look and could tell of each lot ahead of a day, what is eaten on it, and what look tells behind it."""
    lots = lots_of(farm)
    rows = answered(*farm, *looks(lots), *[could(i, t) for i in range(lots)], day(t, feed), *looks(lots))[len(farm):]
    return rows[:lots], rows[lots:2 * lots], rows[2 * lots][0], rows[2 * lots + 1:]


def days_fed(farm, t):
    """What all weigh and have eaten behind 0, 1, .. days on which there was more than enough."""
    rows = answered(*farm, sums(), *[day(t, LARGEST)] * DAYS)[len(farm):]
    told = [(rows[0][4], 0)]
    for eaten, mass in rows[1:]:
        told.append((mass, told[-1][1] + eaten))
    return told


def looks_fed(farm, i, t):
    """What look tells of a lot behind 0, 1, .. days on which there was more than enough."""
    many = (98 - len(farm)) // 2
    return answered(*farm, look(i), *[day(t, LARGEST), look(i)] * many)[len(farm)::2]


def over_farms(test):
    """Runs a test over each farm and warmth."""
    def run(case):
        for number, farm in enumerate(FARMS):
            for t in WARMTHS:
                with case.subTest(farm=number, t=t):
                    test(case, farm, t)
    return run


class NothingComesOfNothing(unittest.TestCase):
    @over_farms
    def test_no_more_than_they_could_nor_than_feed_makes(self, farm, t):
        conv = farm[0][3]
        need = last(*farm, needs(t))[0]
        for feed in (0, 1, 2, need // 3, max(need - 1, 0), need, need + 1, 2 * need):
            old, told, eaten, new = day_seen(farm, t, feed)
            grown = [now[2] - was[2] if was[0] else 0 for was, now in zip(old, new)]
            for growth, could_be in zip(grown, told):
                self.assertGreaterEqual(growth, 0)
                self.assertLessEqual(growth, could_be[0])
            self.assertLessEqual(eaten, feed)
            self.assertLessEqual(sum(grown) * conv, eaten * 100)

    @over_farms
    def test_no_more_is_eaten_than_fed_in_all(self, farm, t):
        days = [day(t, feed) for feed in (0, 5, 777, 100000, LARGEST, 3)]
        told = last(*farm, *days, sums())
        self.assertLessEqual(told[1], told[0])


class WithEnough(unittest.TestCase):
    @over_farms
    def test_all_grow_as_they_could(self, farm, t):
        need = last(*farm, needs(t))[0]
        for feed in (need, need + 1, LARGEST):
            old, told, eaten, new = day_seen(farm, t, feed)
            self.assertEqual(eaten, need)
            self.assertEqual(need, sum(row[1] for row in told))
            for was, could_be, now in zip(old, told, new):
                if was[0]:
                    self.assertEqual(now[2] - was[2], could_be[0])

    @over_farms
    def test_more_feed_never_grows_less(self, farm, t):
        lots = lots_of(farm)
        need = last(*farm, needs(t))[0]
        feeds = sorted({need * part // 40 + more for part in range(42) for more in (0, 1)})
        masses = [0] * lots
        for feed in feeds:
            now = [row[2] for row in answered(*farm, day(t, feed), *looks(lots))[len(farm) + 1:]]
            self.assertTrue(all(new >= old for new, old in zip(now, masses)), feed)
            masses = now


class PartedAndJoined(unittest.TestCase):
    def test_a_lot_is_as_it_was(self):
        for number, farm in enumerate(FARMS):
            lots = lots_of(farm)
            if lots == 10:
                continue
            for i in range(lots):
                many = last(*farm, look(i))[1]
                for n in sorted({1, many // 3, many // 2, many - 1, many}):
                    if n < 1 or n > many:
                        continue
                    rows = answered(*farm, *looks(lots), sums(), split(i, n), sums(), state(), join(i, lots),
                                    *looks(lots), sums(), look(lots))[len(farm):]
                    before, behind = rows[:lots + 1], rows[lots + 5:2 * lots + 6]
                    self.assertEqual(behind, before, (number, i, n))
                    self.assertEqual(rows[lots + 1:lots + 3], [[lots], before[-1]])
                    self.assertEqual(rows[-1][1:4], [0, 0, 0])

    def test_nothing_is_lost(self):
        for number, farm in enumerate(FARMS):
            lots = lots_of(farm)
            for i in range(lots):
                many = last(*farm, look(i))[1]
                rows = answered(*farm, sums(), state(), die(i, many // 3), sums(), state())[len(farm):]
                self.assertEqual(rows[3][4] + rows[3][3] - rows[0][3], rows[0][4], (number, i))
                self.assertEqual(rows[4][2] + rows[3][2] - rows[0][2], rows[1][2], (number, i))


class TillAWeight(unittest.TestCase):
    @over_farms
    def test_so_many_days_and_none_fewer(self, farm, t):
        for i in range(lots_of(farm)):
            weights = [row[3] for row in looks_fed(farm, i, t)]
            reached = max(weights)
            for w in sorted({0, 1, weights[0], weights[0] + 1, (weights[0] + reached) // 2, reached}):
                days = last(*farm, until(i, w, t))[0]
                if w <= reached:
                    self.assertEqual(days, min(k for k, each in enumerate(weights) if each >= w), (i, w))
                else:
                    self.assertTrue(days == -33 or days >= len(weights), (i, w))

    @over_farms
    def test_what_all_eat_till_then(self, farm, t):
        fed = days_fed(farm, t)
        for i in range(lots_of(farm)):
            start = last(*farm, look(i))[3]
            for w in (0, start, start + 1, start + 2, start * 21 // 20):
                days, feed = [row[0] for row in answered(*farm, until(i, w, t), eats(i, w, t))[-2:]]
                if days < 0:
                    self.assertEqual(feed, -33)
                elif days <= DAYS:
                    self.assertEqual(feed, fed[days][1], (i, w))

    @over_farms
    def test_ahead_is_what_the_days_bring(self, farm, t):
        fed = days_fed(farm, t)
        for n in (0, 1, 2, 5, 33, DAYS - 1, DAYS):
            self.assertEqual(last(*farm, ahead(n, t)), list(fed[n]), n)

    @over_farms
    def test_feed_lasts_as_long_as_told(self, farm, t):
        for feed in (0, 1, 100, 5000, 123456, 10000000, LARGEST):
            days = last(*farm, lasts(feed, t))[0]
            self.assertLessEqual(last(*farm, ahead(days, t))[1], feed)
            if days < 1000:
                self.assertGreater(last(*farm, ahead(days + 1, t))[1], feed)

    @over_farms
    def test_feed_for_so_many_days_and_one_less(self, farm, t):
        for n in (1, 2, 40, 999):
            feed = last(*farm, ahead(n, t))[1]
            if 0 < feed <= LARGEST:
                self.assertGreaterEqual(last(*farm, lasts(feed, t))[0], n)
                self.assertLess(last(*farm, lasts(feed - 1, t))[0], n)

    @over_farms
    def test_just_the_need_day_by_day(self, farm, t):
        line = list(farm)
        for n in range(12):
            need = last(*line, needs(t))[0]
            line.append(day(t, need))
            told = last(*line, sums())
            was = last(*farm, sums())
            self.assertEqual(last(*farm, ahead(n + 1, t)), [told[4], told[1] - was[1]])
            self.assertEqual(told[0] - was[0], told[1] - was[1])


class EggsHatch(unittest.TestCase):
    @over_farms
    def test_in_the_day_in_which_their_degree_days_are_enough(self, farm, t):
        hatch = farm[0][1]
        for i in range(lots_of(farm)):
            seen = looks_fed(farm, i, t)
            days = last(*farm, hatches(i, t))[0]
            if seen[0][0]:
                self.assertEqual(days, -6)
                continue
            for k, row in enumerate(seen):
                degrees = seen[0][4] + k * t
                self.assertEqual(row[0], 1 if degrees >= hatch else 0)
                self.assertEqual(row[0], 1 if 0 <= days <= k else 0)
                if k <= days or days < 0:
                    self.assertEqual(row[4], degrees)
            if t == 0:
                self.assertEqual(days, -33)


if __name__ == "__main__":
    unittest.main()
