"""Whether a fan lies in the fans of a shelf, told by a tree whose leaves lie in one of them each."""

from twinpurse.pieces import divide, place_in, rebuilt, trees_in

# Counts beyond all numbers in what is looked at, and in no ratio that two rays have:
# a fan that has the standing with them has endlessly many around it.
FAR = (1000000000039, 1414213562373)
DEEPEST = 40


def cover(piece, shelf, most):
    """Return a tree by which the counts of the piece lead into fans of the shelf.

    Return None if there is none, or none that is not too deep and has not more leaves than these.
    """
    return _covered(piece, shelf, Effort(most), DEEPEST)


class Effort:
    """How many leaves there may still be."""

    def __init__(self, most):
        self.left = most


def _covered(piece, shelf, effort, deepest):
    place = shelf.place_of(piece)
    effort.left -= 1
    if place is not None:
        return ("in", *place)
    if not piece[2] or not shelf.has(piece[1]):
        return None
    chosen = shelf.best_at(far_out(piece), piece)
    if chosen is None:
        return None
    return _filled(divide(piece, shelf.fans[chosen]), chosen, shelf, effort, deepest)


def far_out(piece):
    _, (first, second), rays = piece
    for ray, count in zip(rays, FAR):
        first += count * ray[0]
        second += count * ray[1]
    return (first, second)


def _filled(tree, chosen, shelf, effort, deepest):
    """Put the places on the shelf at the leaves of a tree; return None where there is none."""
    if deepest < 0 or effort.left < 0:
        return None
    if tree[0] == "in":
        effort.left -= 1
        return ("in", chosen, *place_in(tree[1], shelf.fans[chosen]))
    if tree[0] == "out":
        return _covered(tree[1], shelf, effort, deepest - 1)
    parts = []
    for part in trees_in(tree):
        told = _filled(part, chosen, shelf, effort, deepest - 1)
        if told is None:
            return None
        parts.append(told)
    return rebuilt(tree, parts)
