"""Rings taken as often as the purses allow: which fans they give.

What is found is told as families (whole, fans): whether all of the fan in which the ring begins is in them,
and fans as tuples (base, rays, rounds, maps): the fan's base and rays, how many times the ring is taken, and
how many times each ray of the fan in which it begins, each as a tuple of an own number and a multiple of each
count of the new fan.
"""

from math import gcd

from twinpurse.fans import turn_of
from twinpurse.pieces import counts_of_ray, moved

# A unit is a tuple (vector, parts): what is added to the purses, and how many times the old rays
# and (at the end) the ring go into it.


def least_counts(base, rays, least):
    """Return the list of the least counts of a fan with which both purses are at least so much."""
    lacks = [least[0] - base[0], least[1] - base[1]]
    if not rays:
        return [()] if max(lacks) <= 0 else []
    if len(rays) == 1:
        many = times_to_fill(lacks, rays[0])
        return [(many,)] if many is not None else []
    found = []
    count = 0
    while True:
        ray = rays[0]
        other = times_to_fill([lacks[0] - count * ray[0], lacks[1] - count * ray[1]], rays[1])
        if other is not None and (not found or other < found[-1][1]):
            found.append((count, other))
        if other == 0 or (count * ray[0] >= lacks[0] or not ray[0]) and (count * ray[1] >= lacks[1] or not ray[1]):
            return found
        count += 1


def times_to_fill(lacks, ray):
    """Return the least number of times that a ray makes up for what is lacking, or None."""
    many = 0
    for lack, more in zip(lacks, ray):
        if lack > 0 and more == 0:
            return None
        if lack > 0:
            many = max(many, -(-lack // more))
    return many


def taken(base, rays, needed, effect):
    """Return the families of fans to which a ring leads with rays that the fan does not have."""
    if needed is None or effect == (0, 0):
        return []
    first, second, exact = needed
    if not exact:
        return _taken_freely(base, rays, (first, second), effect)
    if effect[0] != 0:
        return []
    return _taken_with_test(base, rays, (first, second), effect)


def _taken_freely(base, rays, least, effect):
    size = len(rays)
    units = [(ray, _unit_parts(size, index)) for index, ray in enumerate(rays)]
    extremes = _extremes(units, size, effect)
    if sorted([unit[0] for unit in extremes]) == sorted(rays):
        return []
    return [
        (not any(counts), _with_extremes(base, rays, counts, extremes))
        for counts in least_counts(base, rays, least)
    ]


def _taken_with_test(base, rays, least, effect):
    """The first purse is just so much each time; so only rays that put nothing into it are left."""
    kept = [index for index, ray in enumerate(rays) if ray[0] == 0]
    units = [(rays[index], _unit_parts(len(rays), index)) for index in kept]
    extremes = _extremes(units, len(rays), effect)
    if sorted([unit[0] for unit in extremes]) == sorted([rays[index] for index in kept]):
        return []
    found = []
    for counts in _exact_counts(base, rays, least[0]):
        at = base
        for ray, count in zip(rays, counts):
            at = moved(at, ray, count)
        more = times_to_fill([0, least[1] - at[1]], rays[kept[0]] if kept else (0, 0))
        if more is not None:
            full = [count + (more if index in kept else 0) for index, count in enumerate(counts)]
            whole = len(kept) == len(rays) and not any(full)
            found.append((whole, _with_extremes(base, rays, full, extremes)))
    return found


def _exact_counts(base, rays, first):
    """Return the list of counts with just so much in the first purse; rays that put nothing in count 0."""
    found = [((), first - base[0])]
    for ray in rays:
        if ray[0] == 0:
            found = [((*counts, 0), lack) for counts, lack in found]
        else:
            found = [
                ((*counts, count), lack - count * ray[0])
                for counts, lack in found for count in range(max(lack, 0) // ray[0] + 1)
            ]
    return [counts for counts, lack in found if lack == 0]


def _unit_parts(size, index):
    return tuple([1 if at == index else 0 for at in range(size + 1)])


def _joined(unit, times, other, other_times):
    vector = moved((times * unit[0][0], times * unit[0][1]), other[0], other_times)
    return (vector, tuple([times * part + other_times * more for part, more in zip(unit[1], other[1])]))


def _extremes(units, size, effect):
    """Return the one or two units at the edges of all that the rays and the ring put in together."""
    ring = (effect, _unit_parts(size, size))
    found = list(units)
    if effect[0] >= 0 and effect[1] >= 0:
        found.append(ring)
    for unit in units:
        found.extend(_on_axes(unit, ring))
        found.extend(_on_line(unit, ring))
    if not found:
        return []
    right = left = found[0]
    for unit in found:
        right = _further(right, unit, 1)
        left = _further(left, unit, -1)
    return [right, left] if turn_of(right[0], left[0]) != 0 else [right]


def _further(best, unit, sign):
    """Of two units the one further to the right (with the sign 1), or the shorter one on the same line."""
    turn = sign * turn_of(unit[0], best[0])
    if turn > 0 or turn == 0 and sum(unit[0]) < sum(best[0]):
        return unit
    return best


def _on_axes(unit, ring):
    """The ring is taken as often as the ray makes up for, so that one purse stays as it is."""
    found = []
    for purse in (0, 1):
        gain, loss = unit[0][purse], -ring[0][purse]
        if gain > 0 and loss > 0:
            common = gcd(gain, loss)
            joined = _joined(unit, loss // common, ring, gain // common)
            if max(joined[0]) > 0 and min(joined[0]) >= 0:
                found.append(joined)
    return found


def _on_line(unit, ring):
    """A ring that leads back on the line of a ray gives what they have in common."""
    (first, second), (back_first, back_second) = unit[0], ring[0]
    if turn_of(unit[0], ring[0]) != 0 or back_first > 0 or back_second > 0:
        return []
    size, loss = (first, -back_first) if first else (second, -back_second)
    common = gcd(size, loss)
    times = 1
    while (times * size) % loss != common % loss:
        times += 1
    return [_joined(unit, times, ring, (times * size - common) // loss)]


def _with_extremes(base, rays, counts, extremes):
    """Return the fans with these rays from the counts on, as many as are needed for all of the old rays."""
    fan_rays = tuple([unit[0] for unit in extremes])
    shifts = [()]
    for ray in rays:
        many = _times_to_meet(ray, fan_rays)
        shifts = [(*shift, more) for shift in shifts for more in range(many)]
    found = []
    for shift in shifts:
        owns = [count + more for count, more in zip(counts, shift)]
        at = base
        for ray, own in zip(rays, owns):
            at = moved(at, ray, own)
        maps = [(own, *[unit[1][index] for unit in extremes]) for index, own in enumerate(owns)]
        rounds = (0, *[unit[1][-1] for unit in extremes])
        found.append((at, fan_rays, rounds, tuple(maps)))
    return found


def _times_to_meet(ray, fan_rays):
    """Return the least number of times from 1 on that a ray is a sum of the new rays; 1 if it never is."""
    fan = (0, (0, 0), fan_rays)
    if len(fan_rays) == 1 and turn_of(ray, fan_rays[0]) != 0:
        return 1
    times = 1
    while counts_of_ray(fan, (times * ray[0], times * ray[1])) is None:
        times += 1
    return times
