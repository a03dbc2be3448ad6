"""Fans cut in pieces, which are fans again: what meets conditions, and what does not.

A condition is a tuple (own, a, b): own + a first + b second is at least 0. A congruence is a tuple
(own, a, b, m): this sum is a multiple of m. What is cut is told as a tree with the forms of the document
(less, rest, compare), whose leaves are ("in", piece) and ("out", piece).
"""

from math import gcd, lcm

from twinpurse.fans import counts_in, turn_of

# From this ratio on, a direction is met sooner by remainders than by many comparisons.
STEEP = 8


def moved(pair, ray, times):
    """Return the pair with the ray added so many times."""
    return (pair[0] + times * ray[0], pair[1] + times * ray[1])


def place_in(piece, fan):
    """Return (begin, rows), with which the counts of a piece are counts of the fan, or None if it is not in it."""
    if len(fan[2]) < len(piece[2]):
        return None
    begin = counts_in(fan, (piece[0], *piece[1]))
    if begin is None:
        return None
    rows = [counts_of_ray(fan, ray) for ray in piece[2]]
    return (begin, tuple(rows)) if None not in rows else None


def counts_of_ray(fan, ray):
    """Return how many times each ray of the fan goes into a pair of integers, or None."""
    return counts_in((0, (0, 0), fan[2]), (0, *ray))


def divide(piece, fan):
    """Cut a piece by a fan: its leaves are in the fan, or have no standing of it."""
    if piece[0] != fan[0]:
        return ("out", piece)
    conditions, congruences = conditions_of(fan)
    return cut(piece, conditions, congruences)


def conditions_of(fan):
    """Return the conditions and the congruences that the purses meet in just the standings of the fan."""
    _, base, rays = fan
    if len(rays) == 0:
        sums = [_from_base(base, 1, 0), _from_base(base, -1, 0), _from_base(base, 0, 1), _from_base(base, 0, -1)]
        return sums, []
    first, second = rays[0]
    if len(rays) == 1:
        along = _from_base(base, 1, 0) if first else _from_base(base, 0, 1)
        sums = [along, _from_base(base, -second, first), _from_base(base, second, -first)]
        return sums, [(*along, first if first else second)]
    grain = turn_of(rays[0], rays[1])
    sign = 1 if grain > 0 else -1
    other_first, other_second = rays[1]
    sums = [
        _from_base(base, sign * other_second, -sign * other_first),
        _from_base(base, -sign * second, sign * first),
    ]
    return sums, [(*told, sign * grain) for told in sums]


def cut(piece, conditions, congruences):
    """Cut a piece into leaves that meet all conditions and congruences, and others where none does."""
    if not all([_can_be_met(piece, told) for told in congruences]):
        return ("out", piece)
    for told in conditions:
        own, multiples = sums_at(piece, told)
        low = min(multiples, default=0)
        if own >= 0 and low >= 0:
            continue
        if own < 0 and max(multiples, default=0) <= 0:
            return ("out", piece)
        if len(multiples) == 2 and low < 0 < max(multiples):
            return _cut_between(piece, multiples, conditions, congruences)
        return _cut_ahead(piece, own, multiples, conditions, congruences)
    return _cut_remainders(piece, congruences)


def sums_at(piece, told):
    """Return what a condition sums up in a piece: its own number, and the multiples of the counts."""
    base, rays = piece[1], piece[2]
    own = told[0] + told[1] * base[0] + told[2] * base[1]
    return own, [told[1] * ray[0] + told[2] * ray[1] for ray in rays]


def ahead_of(own, multiples):
    """Return the index of a count, and from how many of it on a sum is at least 0, or is below 0, for all counts.

    The multiples are not above 0 if the own number is at least 0, and not below 0 otherwise.
    """
    sizes = [abs(multiple) for multiple in multiples]
    index = sizes.index(max(sizes))
    return index, -(own // sizes[index]) if own < 0 else own // sizes[index] + 1


def times_to_meet(ray, congruences):
    """Return the least number of times from 1 on that a ray changes no remainder."""
    many = 1
    for _, a, b, modulus in congruences:
        many = lcm(many, modulus // gcd(modulus, a * ray[0] + b * ray[1]))
    return many


def with_count(piece, index, count):
    """Return the part of a piece that has just this count."""
    room, base, rays = piece
    return (room, moved(base, rays[index], count), rays[:index] + rays[index + 1:])


def beyond_count(piece, index, count):
    """Return the part of a piece that has at least this count."""
    room, base, rays = piece
    return (room, moved(base, rays[index], count), rays)


def with_remainder(piece, index, many, remainder):
    """Return the part of a piece whose count leaves this remainder."""
    room, base, rays = piece
    ray = (many * rays[index][0], many * rays[index][1])
    return (room, moved(base, rays[index], remainder), rays[:index] + (ray,) + rays[index + 1:])


def halves(piece):
    """Return the two parts of a piece that a comparison of its two counts leads to."""
    room, base, (ray, other) = piece
    both = moved(ray, other, 1)
    return (room, base, (both, other)), (room, moved(base, ray, 1), (ray, both))


def leaves_of(tree):
    """Return the list of all leaves of a tree."""
    if tree[0] in ("in", "out"):
        return [tree]
    return [leaf for part in trees_in(tree) for leaf in leaves_of(part)]


def trees_in(tree):
    """Return the trees that stand in a tree that is not a leaf."""
    if tree[0] == "less":
        return (*tree[2], tree[3])
    return tree[2] if tree[0] == "rest" else tree[1:]


def rebuilt(tree, parts):
    """Return a tree of the same form with other trees in it, in their order."""
    if tree[0] == "less":
        return ("less", tree[1], tuple(parts[:-1]), parts[-1])
    if tree[0] == "rest":
        return ("rest", tree[1], tuple(parts))
    return ("compare", *parts)


def _from_base(base, first, second):
    return (-first * base[0] - second * base[1], first, second)


def _can_be_met(piece, congruence):
    own, multiples = sums_at(piece, congruence)
    common = congruence[3]
    for multiple in multiples:
        common = gcd(common, multiple)
    return int(own) % common == 0


def _cut_between(piece, multiples, conditions, congruences):
    # The condition holds on one side of a direction between the rays: they come nearer to it from both sides.
    large, small = max(abs(multiples[0]), abs(multiples[1])), min(abs(multiples[0]), abs(multiples[1]))
    if large >= STEEP * small:
        index = 0 if abs(multiples[0]) == small else 1
        return _cut_rest(piece, index, large // small, conditions, congruences)
    low, high = halves(piece)
    return ("compare", cut(low, conditions, congruences), cut(high, conditions, congruences))


def _cut_ahead(piece, own, multiples, conditions, congruences):
    # Only the first few counts do not meet the condition, or only they do.
    index, many = ahead_of(own, multiples)
    trees = [cut(with_count(piece, index, count), conditions, congruences) for count in range(many)]
    return ("less", index, tuple(trees), cut(beyond_count(piece, index, many), conditions, congruences))


def _cut_rest(piece, index, many, conditions, congruences):
    parts = [with_remainder(piece, index, many, remainder) for remainder in range(many)]
    return ("rest", index, tuple([cut(part, conditions, congruences) for part in parts]))


def _cut_remainders(piece, congruences):
    for index, ray in enumerate(piece[2]):
        many = times_to_meet(ray, congruences)
        if many > 1:
            return _cut_rest(piece, index, many, [], congruences)
    return ("in", piece)
