"""Many lines of calls, answered by the program and by a second telling of the document, in fractions."""

import itertools
import math
import random
import unittest
from fractions import Fraction

from warmthgrown.farm import answers
from tests.calls import (LARGEST, ahead, begin, best, could, day, die, eats, eggs, hatches, in_one_list, join, lasts, look,
                         needs, rows_of, split, state, stock, sums, until)


class Refused(Exception):
    pass


def refuse_if(due, number):
    if due:
        raise Refused(number)


class Telling:
    """The document's words over lots as tuples: hatched, how many, mass, degree-days."""

    def __init__(self):
        self.told = None
        self.lots = []
        # Each day's feed and what was eaten; how many died at a time, and their mass.
        self.days = []
        self.deaths = []

    def reply(self, call):
        verbs = (self.begin, self.eggs, self.stock, self.day, self.die, self.split, self.join, self.look, self.needs,
                 self.could, self.until, self.eats, self.hatches, self.ahead, self.lasts, self.best, self.sums,
                 self.state)
        try:
            refuse_if(call[0] != 0 and self.told is None, -61)
            return verbs[call[0]](*call[1:])
        except Refused as refusal:
            return [refusal.args[0]]

    def begin(self, hatch, first, conv, many, *pace):
        refuse_if(hatch not in range(1, 1001) or first not in range(1, 101) or conv not in range(50, 301), -22)
        refuse_if(many != 26 or any(number > 500 for number in pace), -22)
        self.told = (hatch, first, conv, pace)
        self.lots = []
        self.days = []
        self.deaths = []
        return [0]

    def behind_all(self, lot):
        refuse_if(len(self.lots) == 10, -28)
        self.lots = self.lots + [lot]
        return [len(self.lots) - 1]

    def eggs(self, n):
        refuse_if(n not in range(1, 1000001), -22)
        return self.behind_all((0, n, 0, 0))

    def stock(self, n, w):
        refuse_if(n not in range(1, 1000001) or w not in range(1, 100001), -22)
        return self.behind_all((1, n, n * w, 0))

    def each(self, lot):
        return math.floor(Fraction(lot[2], lot[1])) if lot[1] else 0

    def grows(self, lot, t):
        if not lot[0]:
            return 0
        return math.floor(Fraction(lot[2] * self.told[3][t], 10000 + self.each(lot)))

    def needs_one(self, lot, t):
        return math.ceil(self.grows(lot, t) * Fraction(self.told[2], 100))

    def needs(self, t):
        refuse_if(t > 25, -22)
        return [sum(self.needs_one(lot, t) for lot in self.lots)]

    def day(self, t, f):
        need = self.needs(t)[0]
        eaten = 0
        lots = []
        for lot in self.lots:
            gets = self.needs_one(lot, t)
            if need > f:
                gets = math.floor(f * Fraction(gets, need))
            eaten += gets
            lots.append(self.behind_day(lot, t, gets))
        self.lots = lots
        self.days.append((f, eaten))
        return [eaten, sum(lot[2] for lot in lots)]

    def behind_day(self, lot, t, gets):
        hatched, many, mass, degrees = lot
        hatch, first, conv, pace = self.told
        if hatched:
            makes = math.floor(gets * Fraction(100, conv))
            return (1, many, mass + min(makes, self.grows(lot, t)), degrees)
        if degrees + t >= hatch:
            return (1, many, many * first, degrees + t)
        return (0, many, 0, degrees + t)

    def lot(self, i):
        refuse_if(i not in range(len(self.lots)), -2)
        return self.lots[i]

    def put(self, i, lot):
        self.lots = self.lots[:i] + [lot] + self.lots[i + 1:]

    def parted(self, lot, n):
        hatched, many, mass, degrees = lot
        part = math.floor(Fraction(n * mass, many)) if many else 0
        return (hatched, n, part, degrees), (hatched, many - n, mass - part, degrees)

    def die(self, i, n):
        lot = self.lot(i)
        refuse_if(lot[1] < n, -12)
        part, rest = self.parted(lot, n)
        self.put(i, rest)
        self.deaths.append((n, part[2]))
        return [lot[1] - n]

    def split(self, i, n):
        lot = self.lot(i)
        refuse_if(n == 0, -22)
        refuse_if(lot[1] < n, -12)
        part, rest = self.parted(lot, n)
        number = self.behind_all(part)
        self.put(i, rest)
        return number

    def join(self, i, j):
        one = self.lot(i)
        other = self.lot(j)
        refuse_if(i == j, -22)
        refuse_if((one[0], one[3]) != (other[0], other[3]), -33)
        self.put(i, (one[0], one[1] + other[1], one[2] + other[2], one[3]))
        self.put(j, (other[0], 0, 0, other[3]))
        return [one[1] + other[1]]

    def look(self, i):
        lot = self.lot(i)
        return [lot[0], lot[1], lot[2], self.each(lot), lot[3]]

    def could(self, i, t):
        lot = self.lot(i)
        refuse_if(t > 25, -22)
        return [self.grows(lot, t), self.needs_one(lot, t)]

    def fed_enough(self, t):
        """How many days from now, 0 to 1,000, the lots then, and what is eaten till then."""
        later = Telling()
        later.told = self.told
        later.lots = self.lots
        eaten = 0
        for number in range(1001):
            yield number, later.lots, eaten
            eaten += later.day(t, later.needs(t)[0])[0]

    def first_with_weight(self, i, w, t):
        self.lot(i)
        refuse_if(t > 25, -22)
        for number, lots, eaten in self.fed_enough(t):
            if self.each(lots[i]) >= w:
                return number, eaten
        raise Refused(-33)

    def until(self, i, w, t):
        return [self.first_with_weight(i, w, t)[0]]

    def eats(self, i, w, t):
        return [self.first_with_weight(i, w, t)[1]]

    def hatches(self, i, t):
        lot = self.lot(i)
        refuse_if(t > 25, -22)
        refuse_if(lot[0], -6)
        for number in range(1, 1001):
            if lot[3] + number * t >= self.told[0]:
                return [number]
        raise Refused(-33)

    def ahead(self, n, t):
        refuse_if(t > 25 or n > 1000, -22)
        return next([sum(lot[2] for lot in lots), eaten] for number, lots, eaten in self.fed_enough(t) if number == n)

    def lasts(self, f, t):
        refuse_if(t > 25, -22)
        enough = itertools.takewhile(lambda told: told[2] <= f, self.fed_enough(t))
        return [max(number for number, lots, eaten in enough)]

    def best(self, i):
        lot = self.lot(i)
        t = min(range(26), key=lambda t: (-self.grows(lot, t), t))
        return [t, self.grows(lot, t)]

    def sums(self):
        return [sum(feed for feed, eaten in self.days), sum(eaten for feed, eaten in self.days),
                sum(n for n, mass in self.deaths), sum(mass for n, mass in self.deaths), sum(lot[2] for lot in self.lots)]

    def state(self):
        return [len(self.days), len(self.lots), sum(lot[1] for lot in self.lots)]


class Drawing:
    """Draws calls by a seed, so that each line is the same in every run."""

    def __init__(self, seed):
        self.chance = random.Random(seed)

    def one_of(self, *choices):
        return self.chance.choice(choices)

    def up_to(self, most):
        return self.chance.randint(0, most)

    def count(self):
        return self.one_of(0, 1, self.up_to(9), self.up_to(60), self.up_to(3000), self.up_to(1000000), 1000000, 1000001)

    def weight(self):
        return self.one_of(0, 1, self.up_to(30), self.up_to(3000), self.up_to(100000), 100000, 100001)

    def warmth(self):
        return self.one_of(0, self.up_to(25), self.up_to(25), self.up_to(25), self.up_to(27))

    def feed(self):
        return self.one_of(0, self.up_to(100), self.up_to(10000), self.up_to(1000000), LARGEST)

    def lot(self):
        return self.one_of(0, 1, self.up_to(3), self.up_to(11))

    def begin(self):
        most = self.one_of(20, 200, 500, 500, 501)
        many = self.one_of(26, 26, 26, 26, 26, self.up_to(30))
        hatch = self.one_of(1, 30, self.up_to(100), self.up_to(1001))
        conv = self.one_of(50, 300, self.chance.randint(50, 300), self.chance.randint(49, 301))
        return begin(hatch, self.one_of(1, 2, self.up_to(101)), conv, [self.up_to(most) for at in range(many)])

    def quick(self):
        which = self.up_to(40)
        if which == 0:
            return self.begin()
        verbs = (lambda: eggs(self.count()), lambda: stock(self.count(), self.weight()),
                 lambda: day(self.warmth(), self.feed()), lambda: die(self.lot(), self.count()),
                 lambda: split(self.lot(), self.count()), lambda: join(self.lot(), self.lot()),
                 lambda: look(self.lot()), lambda: needs(self.warmth()), lambda: could(self.lot(), self.warmth()),
                 lambda: hatches(self.lot(), self.warmth()), lambda: best(self.lot()), sums, state)
        return verbs[which % len(verbs)]()

    def slow(self):
        """A call that may look ahead by a thousand days."""
        n = self.one_of(0, 1, self.up_to(30), self.up_to(300), 1000, 1001)
        t = self.one_of(self.warmth(), self.warmth(), self.warmth(), self.warmth(), 25, 26)
        i = self.one_of(0, 0, 0, self.lot())
        w = self.one_of(self.up_to(100), self.up_to(1000), self.weight())
        return self.one_of(until(i, w, t), eats(i, w, t), ahead(n, t), lasts(self.feed(), t))

    def line(self):
        return [self.begin(), self.begin()] + [self.quick() for at in range(self.up_to(97) + 1)]

    def slow_line(self):
        """A line that begins aright, and looks ahead at its end."""
        made = [self.one_of(eggs(self.count()), stock(self.count(), self.weight())) for at in range(self.up_to(6))]
        changed = [self.one_of(day(self.warmth(), self.feed()), die(self.lot(), self.up_to(9)),
                               split(self.lot(), self.up_to(60)), join(self.lot(), self.lot()))
                   for at in range(self.up_to(9))]
        return [self.begin(), *made, *changed, self.slow(), self.quick(), self.slow(), sums(), state()]


class ManyLines(unittest.TestCase):
    def met_in(self, lines):
        """Asserts that the lines are answered as the second telling answers them: how often each answer was met."""
        met = {}
        for number, line in enumerate(lines):
            telling = Telling()
            expected = [telling.reply(call) for call in line]
            told = rows_of(answers(in_one_list(line)))
            for at, call in enumerate(line):
                self.assertEqual(told[at], expected[at], (number, at, call))
                key = (call[0], min(told[at][0], 0))
                met[key] = met.get(key, 0) + 1
            self.assertEqual(len(told), len(line))
        return met

    def test_answered_as_the_second_telling_answers(self):
        met = self.met_in([Drawing(seed).line() for seed in range(600)])
        # Each call is met both answered and by each of its refusals.
        for key in ((0, 0), (0, -22), (1, 0), (1, -22), (1, -28), (1, -61), (2, 0), (2, -22), (2, -28), (3, 0),
                    (3, -22), (4, 0), (4, -2), (4, -12), (5, 0), (5, -2), (5, -22), (5, -12), (5, -28), (6, 0),
                    (6, -2), (6, -22), (6, -33), (7, 0), (7, -2), (8, 0), (8, -22), (9, 0), (9, -2), (9, -22), (12, 0),
                    (12, -2), (12, -22), (12, -6), (12, -33), (15, 0), (15, -2), (16, 0), (16, -61), (17, 0), (17, -61)):
            self.assertGreater(met.get(key, 0), 9, key)

    def test_looked_ahead_as_the_second_telling_does(self):
        met = self.met_in([Drawing(seed).slow_line() for seed in range(400)])
        for key in ((10, 0), (10, -2), (10, -22), (10, -33), (10, -61), (11, 0), (11, -2), (11, -22), (11, -33),
                    (11, -61), (13, 0), (13, -22), (13, -61), (14, 0), (14, -22), (14, -61)):
            self.assertGreater(met.get(key, 0), 2, key)


if __name__ == "__main__":
    unittest.main()
