"""The calls on one farm, and the list of numbers that they come and are answered in."""

from warmthgrown.lots import Lot, could_grow, each_weighs, eat_and_grow, gather_warmth, needed_feed, take_part

NO_LOT = -2
TOO_FEW = -12
WRONG = -22
NO_ROOM = -28
UNLIKE = -33
NOT_BEGUN = -61

BEGIN = 0
MOST_LOTS = 10
MOST_IN_LOT = 1000000
WARMEST = 25


class Farm:
    """What was told at the beginning, the lots, and which day it is."""

    def __init__(self):
        self.begun = False
        self.hatch = 0
        self.first = 0
        self.conv = 0
        self.pace = []
        self.lots = []
        self.today = 0


def within(number, least, most):
    return least <= number and number <= most


def lacks_lot(farm, i):
    return i >= len(farm.lots)


def is_full(farm):
    return len(farm.lots) >= MOST_LOTS


def add_lot(farm, lot):
    """Puts a lot behind all others: its number."""
    farm.lots.append(lot)
    return len(farm.lots) - 1


def all_mass(farm):
    return sum([lot.mass for lot in farm.lots])


def needs_of_lots(farm, warmth):
    """What each lot needs in a day of that warmth, lot by lot."""
    pace = farm.pace[warmth]
    return [needed_feed(could_grow(lot, pace), farm.conv) for lot in farm.lots]


def shares_of_feed(feed, wanted):
    """What each lot gets of the feed, by what it needs."""
    need = sum(wanted)
    if need <= feed:
        return wanted
    return [feed * want // need for want in wanted]


def pass_day(farm, warmth, feed):
    """Lets a day go by: how much is eaten."""
    # All shares are told before a lot changes: they go by the morning's needs.
    shares = shares_of_feed(feed, needs_of_lots(farm, warmth))
    for lot, share in zip(farm.lots, shares):
        if lot.hatched:
            eat_and_grow(lot, share, farm.pace[warmth], farm.conv)
        else:
            gather_warmth(lot, warmth, farm.hatch, farm.first)
    farm.today = farm.today + 1
    return sum(shares)


def is_pace(pace):
    return len(pace) == WARMEST + 1 and max(pace) <= 500


def call_begin(farm, numbers):
    hatch = numbers[0]
    first = numbers[1]
    conv = numbers[2]
    # numbers[3] is how many numbers the pace has.
    pace = numbers[4:]
    if not within(hatch, 1, 1000) or not within(first, 1, 100):
        return [WRONG]
    if not within(conv, 50, 300) or not is_pace(pace):
        return [WRONG]
    farm.begun = True
    farm.hatch = hatch
    farm.first = first
    farm.conv = conv
    farm.pace = pace
    farm.lots = []
    farm.today = 0
    return [0]


def call_eggs(farm, numbers):
    many = numbers[0]
    if not within(many, 1, MOST_IN_LOT):
        return [WRONG]
    if is_full(farm):
        return [NO_ROOM]
    return [add_lot(farm, Lot(False, many, 0, 0))]


def call_stock(farm, numbers):
    many = numbers[0]
    weight = numbers[1]
    if not within(many, 1, MOST_IN_LOT) or not within(weight, 1, 100000):
        return [WRONG]
    if is_full(farm):
        return [NO_ROOM]
    return [add_lot(farm, Lot(True, many, many * weight, 0))]


def call_day(farm, numbers):
    warmth = numbers[0]
    feed = numbers[1]
    if warmth > WARMEST:
        return [WRONG]
    eaten = pass_day(farm, warmth, feed)
    return [eaten, all_mass(farm)]


def call_die(farm, numbers):
    many = numbers[1]
    if lacks_lot(farm, numbers[0]):
        return [NO_LOT]
    lot = farm.lots[numbers[0]]
    if lot.many < many:
        return [TOO_FEW]
    take_part(lot, many)
    return [lot.many]


def call_split(farm, numbers):
    many = numbers[1]
    if lacks_lot(farm, numbers[0]):
        return [NO_LOT]
    lot = farm.lots[numbers[0]]
    if many == 0:
        return [WRONG]
    if lot.many < many:
        return [TOO_FEW]
    if is_full(farm):
        return [NO_ROOM]
    return [add_lot(farm, take_part(lot, many))]


def call_join(farm, numbers):
    if lacks_lot(farm, numbers[0]) or lacks_lot(farm, numbers[1]):
        return [NO_LOT]
    if numbers[0] == numbers[1]:
        return [WRONG]
    lot = farm.lots[numbers[0]]
    other = farm.lots[numbers[1]]
    if lot.hatched != other.hatched or lot.degrees != other.degrees:
        return [UNLIKE]
    lot.many = lot.many + other.many
    lot.mass = lot.mass + other.mass
    other.many = 0
    other.mass = 0
    return [lot.many]


def call_look(farm, numbers):
    if lacks_lot(farm, numbers[0]):
        return [NO_LOT]
    lot = farm.lots[numbers[0]]
    hatched = 1 if lot.hatched else 0
    return [hatched, lot.many, lot.mass, each_weighs(lot), lot.degrees]


def call_needs(farm, numbers):
    warmth = numbers[0]
    if warmth > WARMEST:
        return [WRONG]
    return [sum(needs_of_lots(farm, warmth))]


# Each call by its number.
CALLS = (
    call_begin, call_eggs, call_stock, call_day, call_die, call_split, call_join, call_look, call_needs,
)

# How many numbers stand behind a call's own, by that number; begin's pace comes on top.
WIDTHS = (4, 1, 2, 2, 2, 2, 2, 1, 1, 2, 3, 3, 2, 2, 2, 1, 0, 0)


def end_of_call(calls, start):
    """Where the call that starts there ends, and the one behind it starts."""
    end = start + 1 + WIDTHS[calls[start]]
    if calls[start] == BEGIN:
        return end + calls[end - 1]
    return end


def answer_call(farm, number, numbers):
    if number != BEGIN and not farm.begun:
        return [NOT_BEGUN]
    return CALLS[number](farm, numbers)


def answers(calls):
    """Answers the calls on a new farm: for each, how many numbers, then these."""
    farm = Farm()
    told = []
    start = 0
    while start < len(calls):
        end = end_of_call(calls, start)
        answer = answer_call(farm, calls[start], calls[start + 1:end])
        told.append(len(answer))
        told.extend(answer)
        start = end
    return told
