"""Pieces with two rays, split along directions between them.

A direction is a pair of counts that have only 1 in common: so many times it goes along the two rays.
"""

from math import gcd

from twinpurse.fans import turn_of
from twinpurse.pieces import moved


def direction_of(multiples):
    """Return the direction in which a sum with these multiples, one below and one above 0, stays as it is."""
    first, second = abs(multiples[0]), abs(multiples[1])
    common = gcd(first, second)
    return (second // common, first // common)


def sectors(directions):
    """Return the list of pairs of directions, the lower one first, between which there is no other one."""
    edges = [(1, 0), (0, 1)]
    for direction in directions:
        if direction not in edges:
            later = [at for at, edge in enumerate(edges) if turn_of(direction, edge) > 0]
            edges.insert(later[0], direction)
    return list(zip(edges, edges[1:]))


def spanned(piece, low, high):
    """Return the piece whose rays go along two directions; it has not all that lies between them."""
    room, base, (ray, other) = piece
    return (room, base, (_along(ray, other, low), _along(ray, other, high)))


def parts_between(piece, low, high):
    """Return pieces with all standings of a piece that lie between two directions."""
    # Each row of counts along the low direction has one place that is not reached from others between the two.
    ray, other = piece[2]
    room, base, rays = spanned(piece, low, high)
    grain = turn_of(low, high)
    first, second = _next_row(low)
    parts = []
    for row in range(grain):
        back = turn_of((row * first, row * second), high) // grain
        counts = (row * first - back * low[0], row * second - back * low[1])
        parts.append((room, moved(base, _along(ray, other, counts), 1), rays))
    return parts


def _next_row(direction):
    """Return counts that are in the first row beyond those along the direction."""
    first, second = direction
    count = 0
    while (1 + count * second) % first:
        count += 1
    return (count, (1 + count * second) // first)


def _along(ray, other, counts):
    return moved((counts[0] * ray[0], counts[0] * ray[1]), other, counts[1])
