"""The calls on one farm, and the list of numbers that they come and are answered in."""

from warmthgrown.days import (
    MOST_DAYS, after_days, all_mass, days_of_feed, needs_of_lots, pass_day, till_hatched, till_weight,
)
from warmthgrown.lots import Lot, could_grow, each_weighs, needed_feed, take_part

NO_LOT = -2
HATCHED = -6
TOO_FEW = -12
WRONG = -22
NO_ROOM = -28
UNLIKE = -33
NEVER = -33
NOT_BEGUN = -61

BEGIN = 0
MOST_LOTS = 10
MOST_IN_LOT = 1000000
WARMEST = 25


class Farm:
    """What was told at the beginning, the lots, which day it is, and the sums since day 0."""

    def __init__(self):
        self.begun = False
        self.hatch = 0
        self.first = 0
        self.conv = 0
        self.pace = []
        self.lots = []
        self.today = 0
        self.fed = 0
        self.eaten = 0
        self.died = 0
        self.died_mass = 0


def within(number, least, most):
    return least <= number and number <= most


def lacks_lot(farm, i):
    return i >= len(farm.lots)


def is_full(farm):
    return len(farm.lots) >= MOST_LOTS


def add_lot(farm, lot):
    """Puts a lot behind all others: its number."""
    farm.lots.append(lot)
    return len(farm.lots) - 1


def refusal_of(farm, i, warmth):
    """The refusal that is due for a lot and a warmth, or 0."""
    if lacks_lot(farm, i):
        return NO_LOT
    if warmth > WARMEST:
        return WRONG
    return 0


def is_pace(pace):
    return len(pace) == WARMEST + 1 and max(pace) <= 500


def call_begin(farm, numbers):
    hatch = numbers[0]
    first = numbers[1]
    conv = numbers[2]
    # numbers[3] is how many numbers the pace has.
    pace = numbers[4:]
    if not within(hatch, 1, 1000) or not within(first, 1, 100):
        return [WRONG]
    if not within(conv, 50, 300) or not is_pace(pace):
        return [WRONG]
    farm.begun = True
    farm.hatch = hatch
    farm.first = first
    farm.conv = conv
    farm.pace = pace
    farm.lots = []
    farm.today = 0
    farm.fed = 0
    farm.eaten = 0
    farm.died = 0
    farm.died_mass = 0
    return [0]


def call_eggs(farm, numbers):
    many = numbers[0]
    if not within(many, 1, MOST_IN_LOT):
        return [WRONG]
    if is_full(farm):
        return [NO_ROOM]
    return [add_lot(farm, Lot(False, many, 0, 0))]


def call_stock(farm, numbers):
    many = numbers[0]
    weight = numbers[1]
    if not within(many, 1, MOST_IN_LOT) or not within(weight, 1, 100000):
        return [WRONG]
    if is_full(farm):
        return [NO_ROOM]
    return [add_lot(farm, Lot(True, many, many * weight, 0))]


def call_day(farm, numbers):
    warmth = numbers[0]
    feed = numbers[1]
    if warmth > WARMEST:
        return [WRONG]
    eaten = pass_day(farm, warmth, feed)
    return [eaten, all_mass(farm.lots)]


def call_die(farm, numbers):
    many = numbers[1]
    if lacks_lot(farm, numbers[0]):
        return [NO_LOT]
    lot = farm.lots[numbers[0]]
    if lot.many < many:
        return [TOO_FEW]
    gone = take_part(lot, many)
    farm.died = farm.died + gone.many
    farm.died_mass = farm.died_mass + gone.mass
    return [lot.many]


def call_split(farm, numbers):
    many = numbers[1]
    if lacks_lot(farm, numbers[0]):
        return [NO_LOT]
    lot = farm.lots[numbers[0]]
    if many == 0:
        return [WRONG]
    if lot.many < many:
        return [TOO_FEW]
    if is_full(farm):
        return [NO_ROOM]
    return [add_lot(farm, take_part(lot, many))]


def call_join(farm, numbers):
    if lacks_lot(farm, numbers[0]) or lacks_lot(farm, numbers[1]):
        return [NO_LOT]
    if numbers[0] == numbers[1]:
        return [WRONG]
    lot = farm.lots[numbers[0]]
    other = farm.lots[numbers[1]]
    if lot.hatched != other.hatched or lot.degrees != other.degrees:
        return [UNLIKE]
    lot.many = lot.many + other.many
    lot.mass = lot.mass + other.mass
    other.many = 0
    other.mass = 0
    return [lot.many]


def call_look(farm, numbers):
    if lacks_lot(farm, numbers[0]):
        return [NO_LOT]
    lot = farm.lots[numbers[0]]
    hatched = 1 if lot.hatched else 0
    return [hatched, lot.many, lot.mass, each_weighs(lot), lot.degrees]


def call_needs(farm, numbers):
    warmth = numbers[0]
    if warmth > WARMEST:
        return [WRONG]
    return [sum(needs_of_lots(farm, farm.lots, warmth))]


def call_could(farm, numbers):
    warmth = numbers[1]
    refusal = refusal_of(farm, numbers[0], warmth)
    if refusal < 0:
        return [refusal]
    growth = could_grow(farm.lots[numbers[0]], farm.pace[warmth])
    return [growth, needed_feed(growth, farm.conv)]


def call_until(farm, numbers):
    refusal = refusal_of(farm, numbers[0], numbers[2])
    if refusal < 0:
        return [refusal]
    till = till_weight(farm, numbers[0], numbers[1], numbers[2])
    if till is None:
        return [NEVER]
    return [till[0]]


def call_eats(farm, numbers):
    refusal = refusal_of(farm, numbers[0], numbers[2])
    if refusal < 0:
        return [refusal]
    till = till_weight(farm, numbers[0], numbers[1], numbers[2])
    if till is None:
        return [NEVER]
    return [till[1]]


def call_hatches(farm, numbers):
    warmth = numbers[1]
    refusal = refusal_of(farm, numbers[0], warmth)
    if refusal < 0:
        return [refusal]
    lot = farm.lots[numbers[0]]
    if lot.hatched:
        return [HATCHED]
    days = till_hatched(farm, lot, warmth)
    if days is None:
        return [NEVER]
    return [days]


def call_ahead(farm, numbers):
    days = numbers[0]
    warmth = numbers[1]
    if days > MOST_DAYS or warmth > WARMEST:
        return [WRONG]
    return list(after_days(farm, days, warmth))


def call_lasts(farm, numbers):
    feed = numbers[0]
    warmth = numbers[1]
    if warmth > WARMEST:
        return [WRONG]
    return [days_of_feed(farm, feed, warmth)]


def call_best(farm, numbers):
    if lacks_lot(farm, numbers[0]):
        return [NO_LOT]
    lot = farm.lots[numbers[0]]
    growths = [could_grow(lot, pace) for pace in farm.pace]
    most = max(growths)
    # The first warmth that is found is the least.
    return [growths.index(most), most]


def call_sums(farm, numbers):
    return [farm.fed, farm.eaten, farm.died, farm.died_mass, all_mass(farm.lots)]


def call_state(farm, numbers):
    return [farm.today, len(farm.lots), sum([lot.many for lot in farm.lots])]


# Each call by its number.
CALLS = (
    call_begin, call_eggs, call_stock, call_day, call_die, call_split, call_join, call_look, call_needs,
    call_could, call_until, call_eats, call_hatches, call_ahead, call_lasts, call_best, call_sums, call_state,
)

# How many numbers stand behind a call's own, by that number; begin's pace comes on top.
WIDTHS = (4, 1, 2, 2, 2, 2, 2, 1, 1, 2, 3, 3, 2, 2, 2, 1, 0, 0)


def end_of_call(calls, start):
    """Where the call that starts there ends, and the one behind it starts."""
    end = start + 1 + WIDTHS[calls[start]]
    if calls[start] == BEGIN:
        return end + calls[end - 1]
    return end


def answer_call(farm, number, numbers):
    if number != BEGIN and not farm.begun:
        return [NOT_BEGUN]
    return CALLS[number](farm, numbers)


def answers(calls):
    """Answers the calls on a new farm: for each, how many numbers, then these."""
    farm = Farm()
    told = []
    start = 0
    while start < len(calls):
        end = end_of_call(calls, start)
        answer = answer_call(farm, calls[start], calls[start + 1:end])
        told.append(len(answer))
        told.extend(answer)
        start = end
    return told
