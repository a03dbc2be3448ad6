"""Papers made from what a search has found: the lot, the roads, and the table."""

from twinpurse.covers import cover
from twinpurse.pieces import cut, moved, rebuilt, trees_in
from twinpurse.programs import MOST_ROOMS
from twinpurse.shelves import Shelf
from twinpurse.sums import added


def lot_of(founds, rooms, most):
    """Return what is found in an order of its own, without fans that lie in others, in so many pieces at most."""
    ordered = sorted(founds, key=_place_in_lot)
    kept = []
    for room in range(rooms):
        told = [found for found in ordered if found.fan[0] == room]
        shelf = Shelf([found.fan for found in told])
        left = []
        for number in range(len(told) - 1, -1, -1):
            shelf.take_out(number)
            if cover(told[number].fan, shelf, most) is None:
                shelf.put_back(number)
                left.append(told[number])
        kept.extend(left[::-1])
    return kept


def _place_in_lot(found):
    room, base, rays = found.fan
    return (room, -len(rays), base[0] + base[1])


def road_to(found):
    """Return the road on which a fan was found, for its counts."""
    size = len(found.fan[2])
    counts = [tuple([1 if at == index + 1 else 0 for at in range(size + 1)]) for index in range(size)]
    parts = []
    while found.before is not None:
        rounds = None if found.rounds is None else _put_in(found.rounds, counts, size)
        if rounds is None and parts and parts[-1][0] == "walk":
            parts[-1] = ("walk", found.word + parts[-1][1])
        elif rounds is None:
            parts.append(("walk", found.word))
        elif any(rounds):
            parts.append(("ring", found.word, rounds))
        if found.maps is not None:
            counts = [_put_in(told, counts, size) for told in found.maps]
        found = found.before
    return tuple(parts[::-1])


def table_of(moves, lot, most):
    """Return the table of a lot, and the list of gaps: pairs of a fan's index and a move.

    At a gap, the move leads out of the lot, or what it leads to is in so many pieces in it that none is told.
    """
    shelves, numbers = _shelves_of(lot)
    table = []
    gaps = []
    for index, fan in enumerate(lot):
        trees = []
        for move, told in enumerate(moves):
            if told[0] == fan[0]:
                tree = _tree_behind(told, fan, shelves[told[1]], most)
                if tree is None:
                    gaps.append((index, move))
                trees.append(None if tree is None else _renumbered(tree, numbers[told[1]]))
        table.append(tuple(trees))
    return table, gaps


def _put_in(told, counts, size):
    """Return a sum over counts that are sums themselves."""
    found = (told[0], *[0 for _ in range(size)])
    for multiple, count in zip(told[1:], counts):
        found = added(found, count, multiple)
    return found


def _shelves_of(lot):
    """Return a shelf with the fans of each room, and for each room the indexes of its fans in the lot."""
    numbers = [[index for index, fan in enumerate(lot) if fan[0] == room] for room in range(MOST_ROOMS)]
    return [Shelf([lot[index] for index in told]) for told in numbers], numbers


def _tree_behind(told, fan, shelf, most):
    """Return the tree for a move from a fan, or None if it leads out of the lot."""
    _, _, first, second, is_test = told
    conditions = [(0, -1, 0)] if is_test else [(first, 1, 0), (second, 0, 1)]
    return _led(cut(fan, conditions, []), told, shelf, most)


def _led(tree, told, shelf, most):
    if tree[0] == "out":
        return ("out",)
    if tree[0] == "in":
        _, base, rays = tree[1]
        return cover((told[1], moved(base, told[2:4], 1), rays), shelf, most)
    parts = []
    for part in trees_in(tree):
        led = _led(part, told, shelf, most)
        if led is None:
            return None
        parts.append(led)
    return rebuilt(tree, parts)


def _renumbered(tree, numbers):
    if tree[0] == "out":
        return tree
    if tree[0] == "in":
        return ("in", numbers[tree[1]], *tree[2:])
    return rebuilt(tree, [_renumbered(part, numbers) for part in trees_in(tree)])
