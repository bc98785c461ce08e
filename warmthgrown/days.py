"""Days that go by on a farm, and days ahead on which its lots are fed enough."""

from warmthgrown.lots import copy_of_lot, could_grow, each_weighs, eat_and_grow, gather_warmth, needed_feed

MOST_DAYS = 1000


def all_mass(lots):
    return sum([lot.mass for lot in lots])


def needs_of_lots(farm, lots, warmth):
    """What each lot needs in a day of that warmth, lot by lot."""
    pace = farm.pace[warmth]
    return [needed_feed(could_grow(lot, pace), farm.conv) for lot in lots]


def shares_of_feed(feed, wanted):
    """What each lot gets of the feed, by what it needs."""
    need = sum(wanted)
    if need <= feed:
        return wanted
    return [feed * want // need for want in wanted]


def live_day(farm, lots, warmth, shares):
    """Lets each lot live a day with its share of feed: how much is eaten."""
    for lot, share in zip(lots, shares):
        if lot.hatched:
            eat_and_grow(lot, share, farm.pace[warmth], farm.conv)
        else:
            gather_warmth(lot, warmth, farm.hatch, farm.first)
    return sum(shares)


def pass_day(farm, warmth, feed):
    """Lets a day go by on the farm: how much is eaten."""
    # All shares are told before a lot changes: they go by the morning's needs.
    shares = shares_of_feed(feed, needs_of_lots(farm, farm.lots, warmth))
    eaten = live_day(farm, farm.lots, warmth, shares)
    farm.today = farm.today + 1
    farm.fed = farm.fed + feed
    farm.eaten = farm.eaten + eaten
    return eaten


def copy_of_lots(farm):
    """Lots to look ahead with, so that the farm's own stay as they are."""
    return [copy_of_lot(lot) for lot in farm.lots]


def live_fed_day(farm, lots, warmth):
    """Lets the lots live a day on which just the need is fed: how much is eaten."""
    return live_day(farm, lots, warmth, needs_of_lots(farm, lots, warmth))


def till_weight(farm, i, weight, warmth):
    """In how many days, fed enough, each of lot i weighs so much, and what all eat till then; None if never."""
    lots = copy_of_lots(farm)
    days = 0
    eaten = 0
    while each_weighs(lots[i]) < weight:
        if days == MOST_DAYS:
            return None
        eaten = eaten + live_fed_day(farm, lots, warmth)
        days = days + 1
    return (days, eaten)


def till_hatched(farm, lot, warmth):
    """In how many days of that warmth a lot of eggs is hatched; None if never."""
    lacking = farm.hatch - lot.degrees
    # Eggs always lack some degrees, so a warmth of 0 ends here too.
    if lacking > MOST_DAYS * warmth:
        return None
    return (lacking + warmth - 1) // warmth


def after_days(farm, days, warmth):
    """What all weigh together behind so many days, fed enough, and what they eat till then."""
    lots = copy_of_lots(farm)
    eaten = 0
    for day in range(days):
        eaten = eaten + live_fed_day(farm, lots, warmth)
    return (all_mass(lots), eaten)


def days_of_feed(farm, feed, warmth):
    """For how many days, fed enough, the feed is enough."""
    lots = copy_of_lots(farm)
    days = 0
    left = feed
    while days < MOST_DAYS:
        left = left - live_fed_day(farm, lots, warmth)
        if left < 0:
            return days
        days = days + 1
    return days
