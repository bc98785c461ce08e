"""One lot of eggs or fish: what it weighs, how it grows, hatches and is parted."""


class Lot:
    """Eggs or fish: hatched or not, how many, their mass, the degree-days gathered as eggs."""

    def __init__(self, hatched, many, mass, degrees):
        self.hatched = hatched
        self.many = many
        self.mass = mass
        self.degrees = degrees


def copy_of_lot(lot):
    return Lot(lot.hatched, lot.many, lot.mass, lot.degrees)


def each_weighs(lot):
    """What each weighs on the average, rounded down."""
    if lot.many == 0:
        return 0
    return lot.mass // lot.many


def could_grow(lot, pace):
    """By how much the lot could grow in a day of that pace."""
    # Eggs have no mass, so this is 0 for them without being asked.
    return lot.mass * pace // (10000 + each_weighs(lot))


def needed_feed(growth, conv):
    """The feed that so much growth takes, rounded up."""
    return (growth * conv + 99) // 100


def eat_and_grow(lot, share, pace, conv):
    """Lets a hatched lot grow by the feed it got."""
    # Needed feed is rounded up, so what it makes may be above what could grow.
    lot.mass = lot.mass + min(share * 100 // conv, could_grow(lot, pace))


def gather_warmth(lot, warmth, hatch, first):
    """Lets eggs gather a day's degrees, and hatch if these are enough."""
    lot.degrees = lot.degrees + warmth
    if lot.degrees >= hatch:
        lot.hatched = True
        lot.mass = lot.many * first


def take_part(lot, many):
    """Takes so many out of a lot, and gives them back as a lot of their own."""
    mass = 0
    # A part of none may be taken from a lot of none.
    if lot.many > 0:
        mass = many * lot.mass // lot.many
    lot.many = lot.many - many
    lot.mass = lot.mass - mass
    return Lot(lot.hatched, many, mass, lot.degrees)
