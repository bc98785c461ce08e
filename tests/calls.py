"""Writes calls as lists of numbers, and reads what is answered back, call by call."""

from warmthgrown.farm import answers

LARGEST = 4294967295
PACE = [20 * warmth for warmth in range(26)]


def begin(hatch=100, first=2, conv=120, pace=PACE):
    return [0, hatch, first, conv, len(pace)] + list(pace)


def eggs(n):
    return [1, n]


def stock(n, w):
    return [2, n, w]


def day(t, f):
    return [3, t, f]


def die(i, n):
    return [4, i, n]


def split(i, n):
    return [5, i, n]


def join(i, j):
    return [6, i, j]


def look(i):
    return [7, i]


def needs(t):
    return [8, t]


def could(i, t):
    return [9, i, t]


def until(i, w, t):
    return [10, i, w, t]


def eats(i, w, t):
    return [11, i, w, t]


def hatches(i, t):
    return [12, i, t]


def ahead(n, t):
    return [13, n, t]


def lasts(f, t):
    return [14, f, t]


def best(i):
    return [15, i]


def sums():
    return [16]


def state():
    return [17]


def in_one_list(calls):
    return [number for call in calls for number in call]


def rows_of(told):
    rows = []
    start = 0
    while start < len(told):
        end = start + 1 + told[start]
        if told[start] < 1 or end > len(told):
            raise AssertionError(f"no such count at {start}: {told}")
        rows.append(told[start + 1:end])
        start = end
    return rows


def answered(*calls):
    """What is answered to each of the calls, on a new object."""
    rows = rows_of(answers(in_one_list(calls)))
    if len(rows) != len(calls):
        raise AssertionError(f"{len(calls)} calls, {len(rows)} answers: {rows}")
    return rows


def last(*calls):
    """What is answered to the last of the calls."""
    return answered(*calls)[-1]


def everything(lots):
    """Calls that show all there is to see of so many lots, and that there are no more."""
    return [look(i) for i in range(lots + 1)] + [needs(t) for t in range(26)] + [sums(), state()]


def unchanged_by(case, before, call, lots):
    """Asserts that all is behind a call as it was ahead of it: what the call is answered."""
    shown = everything(lots)
    plain = answered(*before, *shown)[len(before):]
    rows = answered(*before, call, *shown)
    case.assertEqual(rows[len(before) + 1:], plain, call)
    case.assertEqual(plain[lots], [-2])
    return rows[len(before)]


def same_behind(case, before, refused, number, lots):
    """Asserts that a call is refused by that number, and that all is as it was ahead of it."""
    case.assertEqual(unchanged_by(case, before, refused, lots), [number], refused)
