"""Lots held against each other."""

from math import gcd, lcm

from twinpurse.errors import BadArgument, TooLarge
from twinpurse.fans import check_lot, turn_of
from twinpurse.kinds import is_between
from twinpurse.parts import everything, least_in, parts_inside, parts_outside
from twinpurse.programs import MOST_ROOMS

MOST_FANS = 4
MOST_IN_BASE = 12
MOST_IN_RAY = 4
MOST_COMMON_GRAIN = 6


def union(lot, other):
    """Return a lot with the standings of both lots."""
    check_both(lot, other)
    return [*lot, *other]


def share(lot, other):
    """Return a lot with the standings that are in both lots."""
    check_both(lot, other)
    return parts_inside(lot, other)


def without(lot, other):
    """Return a lot with the standings of the first lot that are not in the other one."""
    check_both(lot, other)
    return parts_outside(lot, other)


def lack(lot, rooms):
    """Return a lot with the standings in so many rooms that are not in the lot."""
    check_lot(lot)
    if not is_between(rooms, 1, MOST_ROOMS):
        raise BadArgument("there are no so many rooms")
    check_size([lot])
    return parts_outside(everything(rooms), lot)


def least(lot):
    """Return the least standing of a lot, or None if it has none."""
    check_lot(lot)
    check_size([lot])
    return least_in(lot)


def number(lot):
    """Return how many standings a lot has, or None if they are endlessly many."""
    check_lot(lot)
    check_size([lot])
    return number_in(lot)


def within(lot, other):
    """Return None if each standing of the first lot is in the other one, otherwise the least that is not."""
    check_both(lot, other)
    return least_in(parts_outside(lot, other))


def alike(lot, other):
    """Return None if both lots have the same standings, otherwise the least that only one of them has."""
    check_both(lot, other)
    return least_in(parts_outside(lot, other) + parts_outside(other, lot))


def number_in(fans):
    """Do as number, for a lot of any size."""
    if any([fan[2] for fan in fans]):
        return None
    return len({(room, base) for room, base, _ in fans})


def check_both(lot, other):
    """Raise BadFan for what is no lot, and TooLarge for lots that are too large together."""
    check_lot(lot)
    check_lot(other)
    check_size([lot, other])


def check_size(lots):
    """Raise TooLarge for lots that go beyond what the functions of this module take."""
    common = 1
    for lot in lots:
        if len(lot) > MOST_FANS or any([_is_beyond(fan) for fan in lot]):
            raise TooLarge("there are too many fans, or numbers that are too great")
        for fan in lot:
            common = lcm(common, grain_of(fan))
    if common > MOST_COMMON_GRAIN:
        raise TooLarge("the grains have no common multiple that is small enough")


def grain_of(fan):
    """Return the grain of a fan."""
    rays = fan[2]
    if len(rays) == 2:
        return abs(turn_of(rays[0], rays[1]))
    return gcd(rays[0][0], rays[0][1]) if rays else 1


def _is_beyond(fan):
    _, base, rays = fan
    return max(base) > MOST_IN_BASE or any([max(ray) > MOST_IN_RAY for ray in rays])
