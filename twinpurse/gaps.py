"""The least standing of fans that is in none of many others, for fans of any size.

Pieces of the fans wait in the order of their least standings. What the others have of a piece is cut off
when it is its turn, so that nothing is cut that lies beyond the answer.
"""

from heapq import heappop, heappush

from twinpurse.covers import far_out
from twinpurse.parts import order_of, order_of_fan
from twinpurse.pieces import beyond_count, divide, leaves_of, with_count
from twinpurse.programs import MOST_ROOMS
from twinpurse.shelves import Shelf


def least_outside(fans, others, bound):
    """Return the least standing of the fans that is in none of the others, or None.

    Only standings that are less than the bound, if it is one, are looked at.
    """
    shelves = [Shelf([fan for fan in others if fan[0] == room]) for room in range(MOST_ROOMS)]
    queue = []
    waiting = list(fans)
    for index, piece in enumerate(waiting):
        heappush(queue, (order_of_fan(piece), index))
    while queue:
        order, index = heappop(queue)
        if bound is not None and order >= order_of(bound):
            return None
        piece = waiting[index]
        shelf = shelves[piece[0]]
        if not shelf.has(piece[1]):
            return (piece[0], *piece[1])
        for part in _left_of(piece, shelf):
            heappush(queue, (order_of_fan(part), len(waiting)))
            waiting.append(part)
    return None


def _left_of(piece, shelf):
    """Return parts of a piece with all standings of it that are in no fan of the shelf, and not its base."""
    if shelf.place_of(piece) is not None:
        return []
    chosen = shelf.best_at(far_out(piece), piece)
    if chosen is None:
        chosen = shelf.best_at(piece[1], piece)
    if chosen is None:
        return _beyond_base(piece)
    return [leaf[1] for leaf in leaves_of(divide(piece, shelf.fans[chosen])) if leaf[0] == "out"]


def _beyond_base(piece):
    found = []
    while piece[2]:
        found.append(beyond_count(piece, 0, 1))
        piece = with_count(piece, 0, 0)
    return found
