"""Trees, tables and papers: when they are right."""

from twinpurse.errors import BadArgument
from twinpurse.fans import MOST_RAYS, check_fan, check_lot, counts_in, is_lot
from twinpurse.forms import DEEPEST, MOST_LEAVES, OUT, is_in_leaf, leaves_in
from twinpurse.kinds import are_counts, is_between, is_tuple_of, is_tuple_up_to
from twinpurse.pieces import beyond_count, halves, with_count, with_remainder
from twinpurse.programs import check_program, check_standing
from twinpurse.roads import is_road
from twinpurse.runs import moves_of

# From so many trees side by side on, those that are out are not looked at one by one.
MANY = 60


def is_tree(program, lot, fan, move, tree):
    """Tell whether a tree is right for a program, a lot, a fan, and a move from the fan's room."""
    check_program(program)
    check_lot(lot)
    check_fan(fan)
    moves = moves_of(program)
    if not is_between(move, 0, len(moves) - 1) or moves[move][0] != fan[0]:
        raise BadArgument("there is no such move in the room of the fan")
    return _is_right_tree(lot, fan, moves[move], tree)


def leaf_of(tree, counts):
    """Return the leaf of a tree to which counts lead, and its own counts."""
    if not is_tuple_up_to(counts, MOST_RAYS) or not are_counts(counts, len(counts)):
        raise BadArgument("these are no counts")
    if leaves_in(tree, len(counts), DEEPEST, True) == 0:
        raise BadArgument("this is not a tree for so many counts")
    while tree[0] not in ("out", "in"):
        tree, counts = _step_down(tree, counts)
    return (tree, counts)


def is_table(program, lot, table):
    """Tell whether a table is right for a lot."""
    check_program(program)
    check_lot(lot)
    return _is_right_table(program, lot, table)


def is_paper(program, start, paper):
    """Tell whether a paper is right for a program and a start."""
    check_program(program)
    check_standing(program, start)
    if not is_tuple_of(paper, 3):
        return False
    lot, roads, table = paper
    if not is_lot(lot) or not is_tuple_of(roads, len(lot)):
        return False
    if all([counts_in(fan, start) is None for fan in lot]):
        return False
    if not all([is_road(program, start, fan, road) for fan, road in zip(lot, roads)]):
        return False
    return _is_right_table(program, lot, table)


def _is_right_table(program, lot, table):
    if not is_tuple_of(table, len(lot)):
        return False
    moves = moves_of(program)
    return all([_is_right_row(moves, lot, fan, trees) for fan, trees in zip(lot, table)])


def _is_right_row(moves, lot, fan, trees):
    told = [move for move in moves if move[0] == fan[0]]
    return is_tuple_of(trees, len(told)) and all([
        _is_right_tree(lot, fan, move, tree) for move, tree in zip(told, trees)
    ])


def _is_right_tree(lot, fan, told, tree):
    # What stands at a leaf is a piece of the fan: a base, and a ray for each own count.
    found = 0
    waiting = [(tree, fan, DEEPEST)]
    while waiting:
        at, piece, deepest = waiting.pop()
        if _is_shut(piece, told):
            many = leaves_in(at, len(piece[2]), deepest, False)
            if many == 0:
                return False
            found += many
        elif not isinstance(at, tuple) or len(at) < 3:
            return False
        elif at[0] == "in":
            if not _is_right_leaf(lot, told, at, piece):
                return False
            found += 1
        else:
            parts = _parts_below(at, piece)
            if parts is None or deepest == 0:
                return False
            found += _many_below(at) - len(parts)
            waiting.extend([(below, piece_below, deepest - 1) for below, piece_below in parts])
        if found + len(waiting) > MOST_LEAVES:
            return False
    return True


def _is_shut(piece, told):
    """Whether the move can be made nowhere in the piece; then so it is in all parts of it."""
    _, base, rays = piece
    if told[4]:
        return base[0] != 0
    for purse in (0, 1):
        if base[purse] + told[2 + purse] < 0 and not any([ray[purse] for ray in rays]):
            return True
    return False


def _is_right_leaf(lot, told, leaf, piece):
    """Whether a leaf with in is right, where the move can be made for some counts."""
    _, base, rays = piece
    if not is_in_leaf(leaf, len(rays)):
        return False
    _, target, first, second, is_test = told
    behind = (base[0] + first, base[1] + second)
    if is_test and any([ray[0] for ray in rays]) or min(behind) < 0:
        return False
    _, index, begin, rows = leaf
    if index >= len(lot) or lot[index][0] != target or len(lot[index][2]) != len(begin):
        return False
    _, other_base, other_rays = lot[index]
    if _summed(other_base, other_rays, begin) != behind:
        return False
    return [_summed((0, 0), other_rays, row) for row in rows] == list(rays)


def _summed(pair, rays, counts):
    """Return the pair with each ray added so many times."""
    first, second = pair
    for ray, count in zip(rays, counts):
        first += count * ray[0]
        second += count * ray[1]
    return (first, second)


def _many_below(tree):
    """Return how many trees stand in a tree."""
    return 2 if tree[0] == "compare" else len(tree[2]) + len(tree) - 3


def _parts_below(tree, piece):
    """Return the list of the trees in a tree, each with its piece, or None for a wrong form.

    Of very many leaves with out only the first and the last one are told: in their order, the move can be made in
    the pieces up to some place, or from some place on, so that all between them are right if these two are.
    """
    size = len(piece[2])
    if tree[0] == "compare":
        return list(zip(tree[1:], halves(piece))) if len(tree) == 3 and size == 2 else None
    if tree[0] not in ("less", "rest") or len(tree) != (4 if tree[0] == "less" else 3):
        return None
    _, index, trees = tree[:3]
    if not is_between(index, 0, size - 1) or not isinstance(trees, tuple):
        return None
    many = len(trees)
    if many < (1 if tree[0] == "less" else 2) or many > MOST_LEAVES:
        return None
    if tree[0] == "rest":
        rays = with_remainder(piece, index, many, 0)[2]
        return _parts_ahead(piece, trees, index, rays)
    rays = with_count(piece, index, 0)[2]
    return [*_parts_ahead(piece, trees, index, rays), (tree[3], beyond_count(piece, index, many))]


def _parts_ahead(piece, trees, index, rays):
    """Return trees with the pieces with these rays that begin with 0, 1, 2 .. of a count."""
    room, (first, second), ray = piece[0], piece[1], piece[2][index]
    return [(trees[at], (room, (first + at * ray[0], second + at * ray[1]), rays)) for at in _places_to_look(trees)]


def _places_to_look(trees):
    """Return the list of the places of all trees, without those of out between two others if they are many."""
    if len(trees) < MANY or trees.count(OUT) < MANY:
        return list(range(len(trees)))
    first, last = trees.index(OUT), len(trees) - 1 - trees[::-1].index(OUT)
    return [at for at, tree in enumerate(trees) if tree != OUT or at == first or at == last]


def _step_down(tree, counts):
    """Return the tree to which counts lead, and their counts there."""
    if tree[0] == "compare":
        x, y = counts
        return (tree[1], (x, y - x)) if x <= y else (tree[2], (x - y - 1, y))
    _, index, trees = tree[:3]
    many, count = len(trees), counts[index]
    if tree[0] == "rest":
        return (trees[count % many], (*counts[:index], count // many, *counts[index + 1:]))
    if count < many:
        return (trees[count], counts[:index] + counts[index + 1:])
    return (tree[3], (*counts[:index], count - many, *counts[index + 1:]))
