"""The interface: the form of the lists, what is left alone, and nothing that is kept."""

import contextlib
import io
import sys
import unittest

from warmthgrown.farm import answers
from tests.calls import (LARGEST, PACE, ahead, answered, begin, best, could, day, die, eats, eggs, hatches, in_one_list,
                         join, last, lasts, look, needs, split, state, stock, sums, until)

MIXED = [look(0), begin(hatch=0), begin(hatch=15), eggs(30), stock(20, 40), day(10, 7), die(1, 3), split(0, 12),
         look(2), needs(10), could(1, 20), until(0, 3, 20), eats(1, 45, 20), hatches(2, 1), ahead(50, 20), lasts(99, 20),
         best(1), sums(), state(), day(5, 9), join(0, 2), look(0), split(0, 99), needs(26), look(7), could(0, 26),
         until(9, 0, 0), eats(0, LARGEST, 9), hatches(0, 9), ahead(1001, 0), lasts(0, 26), best(9), begin(), look(0),
         sums(), state()]


class Form(unittest.TestCase):
    def test_counts_stand_ahead(self):
        calls = in_one_list([begin(), eggs(3), stock(1000, 50), day(10, 1194), die(0, 1), split(1, 400), join(1, 2),
                             look(1), needs(0), look(9)])
        self.assertEqual(answers(calls), [1, 0, 1, 0, 1, 1, 2, 1194, 50995, 1, 2, 1, 2, 1, 1000, 5, 1, 1000, 50995, 50,
                                          0, 1, 0, 1, -2])

    def test_counts_stand_ahead_of_what_is_told(self):
        calls = in_one_list([begin(hatch=20), stock(1000, 50), eggs(3), could(0, 10), until(0, 52, 10), eats(0, 52, 10),
                             hatches(1, 10), ahead(2, 10), lasts(2411, 10), best(0), sums(), state(), best(2),
                             hatches(0, 10)])
        self.assertEqual(answers(calls), [1, 0, 1, 0, 1, 1, 2, 995, 1194, 1, 2, 1, 2411, 1, 2, 2, 52015, 2411, 1, 2,
                                          2, 25, 2487, 5, 0, 0, 0, 0, 50000, 3, 0, 2, 1003, 1, -2, 1, -6])

    def test_how_many_numbers_are_answered(self):
        before = [begin(), stock(10, 20), eggs(3)]
        for call, many in ((could(0, 9), 2), (until(0, 20, 9), 1), (eats(0, 20, 9), 1), (hatches(1, 9), 1),
                           (ahead(3, 9), 2), (lasts(3, 9), 1), (best(0), 2), (sums(), 5), (state(), 3)):
            self.assertEqual(len(last(*before, call)), many, call)

    def test_a_pace_of_any_length_is_stepped_over(self):
        for many in range(31):
            pace = [LARGEST] * many
            self.assertEqual(answered(begin(pace=pace), look(0), begin(), eggs(4)), [[-22], [-61], [0], [0]])

    def test_one_call(self):
        self.assertEqual(answers(begin()), [1, 0])
        self.assertEqual(answers([7, 0]), [1, -61])

    def test_a_hundred_calls(self):
        rows = answered(begin(), stock(1000, 50), *[day(10, 1000)] * 97, look(0))
        self.assertEqual(len(rows), 100)
        self.assertEqual(rows[-2][1], rows[-1][2])
        self.assertEqual(len(answered(*[begin()] * 100)), 100)

    def test_whole_numbers_alone(self):
        told = answers(in_one_list(MIXED))
        self.assertIs(type(told), list)
        self.assertEqual({type(number) for number in told}, {int})

    def test_largest_numbers_everywhere(self):
        top = LARGEST
        rows = answered(begin(), eggs(5), eggs(top), stock(top, top), day(top, top), die(top, top), die(0, top),
                        split(top, top), split(0, top), join(top, top), join(0, top), look(top), needs(top), look(0))
        self.assertEqual(rows[2:], [[-22], [-22], [-22], [-2], [-12], [-2], [-12], [-2], [-2], [-2], [-22],
                                    [0, 5, 0, 0, 0]])
        rows = answered(begin(), stock(5, 5), could(top, top), could(0, top), until(top, top, top), until(0, top, top),
                        until(0, top, 25), eats(top, top, top), eats(0, top, top), eats(0, top, 25), hatches(top, top),
                        hatches(0, top), ahead(top, top), lasts(top, top), lasts(top, 0), best(top), sums(), state())
        self.assertEqual(rows[2:], [[-2], [-22], [-2], [-22], [-33], [-2], [-22], [-33], [-2], [-22], [-22], [-22],
                                    [1000], [-2], [0, 0, 0, 0, 25], [0, 1, 5]])


class WatchedList(list):
    """A list that takes no change, not for a while either."""

    def refuse(self, *words, **more):
        raise AssertionError("the list that was handed in is changed")

    append = extend = insert = pop = remove = clear = sort = reverse = refuse
    __setitem__ = __delitem__ = __iadd__ = __imul__ = refuse


class LeftAlone(unittest.TestCase):
    def test_the_list_is_as_it_was(self):
        calls = in_one_list(MIXED)
        before = list(calls)
        answers(calls)
        self.assertEqual(calls, before)

    def test_not_for_a_while_either(self):
        calls = in_one_list(MIXED)
        self.assertEqual(answers(WatchedList(calls)), answers(calls))

    def test_what_is_given_back_is_a_new_list(self):
        calls = in_one_list(MIXED)
        told = answers(calls)
        self.assertIsNot(told, calls)
        kept = list(told)
        answers(calls).append(5)
        self.assertEqual(told, kept)

    def test_the_same_list_twice(self):
        calls = in_one_list(MIXED)
        self.assertEqual(answers(calls), answers(calls))

    def test_each_time_is_the_first(self):
        answers(in_one_list([begin(), eggs(3), stock(4, 5)]))
        self.assertEqual(answers(look(0)), [1, -61])
        self.assertEqual(last(begin(), look(0)), [-2])

    def test_a_pace_changed_later_does_not_matter(self):
        calls = begin() + stock(1000, 50) + needs(10)
        first = answers(calls)
        changed = list(calls)
        changed[5 + 10] = 0
        self.assertEqual(answers(changed)[-1], 0)
        self.assertEqual(answers(calls), first)
        self.assertEqual(PACE[10], 200)

    def test_prints_reads_and_imports_nothing(self):
        out, err = io.StringIO(), io.StringIO()
        modules = set(sys.modules)
        stdin, sys.stdin = sys.stdin, None
        try:
            with contextlib.redirect_stdout(out), contextlib.redirect_stderr(err):
                answers(in_one_list(MIXED))
        finally:
            sys.stdin = stdin
        self.assertEqual((out.getvalue(), err.getvalue()), ("", ""))
        self.assertEqual(set(sys.modules), modules)


if __name__ == "__main__":
    unittest.main()
