"""Fans and lots: which standings they have, and with which counts."""

from twinpurse.errors import BadArgument, BadFan
from twinpurse.kinds import are_counts, is_between, is_tuple_of, is_tuple_up_to
from twinpurse.programs import MOST_ROOMS, check_place

MOST_RAYS = 2


def check_fan(fan):
    """Return None for a fan, and raise BadFan for everything else."""
    if not is_fan(fan):
        raise BadFan("this is not a fan")


def check_lot(lot):
    """Return None for a list of fans, and raise BadFan for everything else."""
    if not is_lot(lot):
        raise BadFan("this is not a list of fans")


def standing_at(fan, counts):
    """Return the standing of the fan with these counts."""
    check_fan(fan)
    if not are_counts(counts, len(fan[2])):
        raise BadArgument("these are no counts of the fan")
    room, (first, second), rays = fan
    for count, ray in zip(counts, rays):
        first += count * ray[0]
        second += count * ray[1]
    return (room, first, second)


def counts_of(fan, standing):
    """Return the counts with which the fan has the standing, or None if it does not have it."""
    check_fan(fan)
    check_place(standing, MOST_ROOMS)
    return counts_in(fan, standing)


def has(lot, standing):
    """Tell whether some fan of the lot has the standing."""
    check_lot(lot)
    check_place(standing, MOST_ROOMS)
    return any(counts_in(fan, standing) is not None for fan in lot)


def is_fan(fan):
    if not is_tuple_of(fan, 3):
        return False
    room, base, rays = fan
    if not is_between(room, 0, MOST_ROOMS - 1) or not are_counts(base, 2):
        return False
    if not is_tuple_up_to(rays, MOST_RAYS) or not all(_is_ray(ray) for ray in rays):
        return False
    return len(rays) < MOST_RAYS or turn_of(rays[0], rays[1]) != 0


def is_lot(lot):
    return isinstance(lot, list) and all(is_fan(fan) for fan in lot)


def turn_of(ray, other):
    """Return p s - q r for (p, q) and (r, s): 0 exactly if they are on one line."""
    return ray[0] * other[1] - ray[1] * other[0]


def counts_in(fan, standing):
    """Do as counts_of, without a check of what is handed in."""
    room, base, rays = fan
    if standing[0] != room:
        return None
    beyond = (standing[1] - base[0], standing[2] - base[1])
    if len(rays) == 0:
        return () if beyond == (0, 0) else None
    if len(rays) == 1:
        return _counts_along(rays[0], beyond)
    return _counts_between(rays[0], rays[1], beyond)


def _is_ray(ray):
    return are_counts(ray, 2) and ray != (0, 0)


def _counts_along(ray, beyond):
    count = beyond[0] // ray[0] if ray[0] else beyond[1] // ray[1]
    if count < 0 or (count * ray[0], count * ray[1]) != beyond:
        return None
    return (count,)


def _counts_between(ray, other, beyond):
    # Cramer's rule: both quotients must be whole, and not below 0.
    whole = turn_of(ray, other)
    over, under = turn_of(beyond, other), turn_of(ray, beyond)
    count, other_count = over // whole, under // whole
    if count < 0 or other_count < 0 or count * whole != over or other_count * whole != under:
        return None
    return (count, other_count)
