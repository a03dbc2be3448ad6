"""The least standing of fans that is in none of many others, for fans of any size.

Pieces of the fans wait in the order of their least standings. What the others have of a piece is cut off
when it is its turn, so that nothing is cut that lies beyond the answer.
"""

from heapq import heappop, heappush

from twinpurse.covers import far_out
from twinpurse.parts import order_of_fan
from twinpurse.pieces import beyond_count, divide, leaves_of, with_count
from twinpurse.programs import MOST_ROOMS
from twinpurse.shelves import Shelf


def least_outside(fans, others):
    """Return the least standing of the fans that is in none of the others, or None."""
    gaps = Gaps()
    gaps.add_side(fans, others)
    return gaps.least()


def least_apart(fans, others):
    """Return the least standing that is in just one of two lists of fans, or None."""
    gaps = Gaps()
    gaps.add_side(fans, others)
    gaps.add_side(others, fans)
    return gaps.least()


class Gaps:
    """Pieces that wait, each with the shelves of the fans in which all of it may lie."""

    def __init__(self):
        self.queue = []
        self.waiting = []

    def add_side(self, fans, others):
        shelves = [Shelf([fan for fan in others if fan[0] == room]) for room in range(MOST_ROOMS)]
        for fan in fans:
            self.put(fan, shelves[fan[0]])

    def put(self, piece, shelf):
        heappush(self.queue, (order_of_fan(piece), len(self.waiting)))
        self.waiting.append((piece, shelf))

    def least(self):
        """Return the least standing of a piece that is in no fan of its shelf, or None."""
        while self.queue:
            _, index = heappop(self.queue)
            piece, shelf = self.waiting[index]
            if not shelf.has(piece[1]):
                return (piece[0], *piece[1])
            for part in _left_of(piece, shelf):
                self.put(part, shelf)
        return None


def _left_of(piece, shelf):
    """Return parts of a piece with all standings of it that are in no fan of the shelf, and not its base."""
    if shelf.place_of(piece) is not None:
        return []
    chosen = shelf.densest_at(far_out(piece), piece)
    if chosen is None:
        chosen = shelf.best_at(piece[1], piece)
    if chosen is None:
        return _beyond_base(piece)
    return [leaf[1] for leaf in leaves_of(divide(piece, shelf.fans[chosen])) if leaf[0] == "out"]


def _beyond_base(piece):
    found = []
    while piece[2]:
        found.append(beyond_count(piece, 0, 1))
        piece = with_count(piece, 0, 0)
    return found
