"""Trees, tables and papers: when they are right."""

from twinpurse.errors import BadArgument
from twinpurse.fans import MOST_RAYS, check_fan, check_lot, counts_in, is_lot
from twinpurse.kinds import are_counts, is_between, is_count, is_tuple_of, is_tuple_up_to
from twinpurse.pieces import beyond_count, halves, moved, with_count, with_remainder
from twinpurse.programs import check_program, check_standing
from twinpurse.roads import is_road
from twinpurse.runs import moves_of

DEEPEST = 60
MOST_LEAVES = 100000
NAMES = ("out", "in", "less", "rest", "compare")


def is_tree(program, lot, fan, move, tree):
    """Tell whether a tree is right for a program, a lot, a fan, and a move from the fan's room."""
    check_program(program)
    check_lot(lot)
    check_fan(fan)
    moves = moves_of(program)
    if not is_between(move, 0, len(moves) - 1) or moves[move][0] != fan[0]:
        raise BadArgument("there is no such move in the room of the fan")
    return _is_right_tree(lot, fan, moves[move], tree)


def leaf_of(tree, counts):
    """Return the leaf of a tree to which counts lead, and its own counts."""
    if not is_tuple_up_to(counts, MOST_RAYS) or not are_counts(counts, len(counts)):
        raise BadArgument("these are no counts")
    leaves = _leaves_below(tree, _counting(len(counts)))
    if leaves is None or not all([_is_leaf(leaf, len(piece[2])) for leaf, piece in leaves]):
        raise BadArgument("this is not a tree for so many counts")
    while tree[0] not in ("out", "in"):
        tree, counts = _step_down(tree, counts)
    return (tree, counts)


def is_table(program, lot, table):
    """Tell whether a table is right for a lot."""
    check_program(program)
    check_lot(lot)
    return _is_right_table(program, lot, table)


def is_paper(program, start, paper):
    """Tell whether a paper is right for a program and a start."""
    check_program(program)
    check_standing(program, start)
    if not is_tuple_of(paper, 3):
        return False
    lot, roads, table = paper
    if not is_lot(lot) or not is_tuple_of(roads, len(lot)):
        return False
    if all([counts_in(fan, start) is None for fan in lot]):
        return False
    if not all([is_road(program, start, fan, road) for fan, road in zip(lot, roads)]):
        return False
    return _is_right_table(program, lot, table)


def _is_right_table(program, lot, table):
    if not is_tuple_of(table, len(lot)):
        return False
    moves = moves_of(program)
    return all([_is_right_row(moves, lot, fan, trees) for fan, trees in zip(lot, table)])


def _is_right_row(moves, lot, fan, trees):
    told = [move for move in moves if move[0] == fan[0]]
    return is_tuple_of(trees, len(told)) and all([
        _is_right_tree(lot, fan, move, tree) for move, tree in zip(told, trees)
    ])


def _is_right_tree(lot, fan, told, tree):
    # What stands at a leaf is a piece of the fan: a base, and a ray for each own count.
    leaves = _leaves_below(tree, fan)
    return leaves is not None and all([_is_right_leaf(lot, told, leaf, piece) for leaf, piece in leaves])


def _is_right_leaf(lot, told, leaf, piece):
    if not _is_leaf(leaf, len(piece[2])):
        return False
    _, base, rays = piece
    _, target, first, second, is_test = told
    behind = moved(base, (first, second), 1)
    if leaf[0] == "out":
        if is_test:
            return base[0] != 0
        return any([behind[purse] < 0 and not any([ray[purse] for ray in rays]) for purse in (0, 1)])
    if is_test and (base[0] != 0 or any([ray[0] for ray in rays])) or min(behind) < 0:
        return False
    _, index, begin, rows = leaf
    if index >= len(lot) or lot[index][0] != target or len(lot[index][2]) != len(begin):
        return False
    sums = [_sum_of(lot[index][2], row) for row in rows]
    return moved(lot[index][1], _sum_of(lot[index][2], begin), 1) == behind and sums == list(rays)


def _sum_of(rays, counts):
    found = (0, 0)
    for ray, count in zip(rays, counts):
        found = moved(found, ray, count)
    return found


def _is_leaf(leaf, size):
    """Whether this is a leaf for so many counts, by itself."""
    if leaf[0] == "out":
        return len(leaf) == 1
    if len(leaf) != 4 or not is_count(leaf[1]):
        return False
    _, _, begin, rows = leaf
    if not is_tuple_up_to(begin, MOST_RAYS) or not are_counts(begin, len(begin)):
        return False
    return is_tuple_of(rows, size) and all([are_counts(row, len(begin)) for row in rows])


def _counting(size):
    """Return a piece with so many counts, of which only their number matters."""
    return (0, (0, 0), ((0, 0),) * size)


def _leaves_below(tree, piece):
    """Return the list of leaves, each with its piece, or None for what has not the form of a tree."""
    found = []
    waiting = [(tree, piece, 0)]
    while waiting:
        at, part, depth = waiting.pop()
        if not isinstance(at, tuple) or not at or not isinstance(at[0], str) or at[0] not in NAMES:
            return None
        if at[0] in ("out", "in"):
            found.append((at, part))
        else:
            parts = _parts_below(at, part)
            if parts is None or depth == DEEPEST:
                return None
            waiting.extend([(below, piece_below, depth + 1) for below, piece_below in parts])
        if len(found) + len(waiting) > MOST_LEAVES:
            return None
    return found


def _parts_below(tree, piece):
    """Return the list of the trees in a tree, each with its piece, or None for a wrong form."""
    size = len(piece[2])
    if tree[0] == "compare":
        if len(tree) != 3 or size != 2:
            return None
        return list(zip(tree[1:], halves(piece)))
    if len(tree) != (4 if tree[0] == "less" else 3) or not is_between(tree[1], 0, size - 1):
        return None
    index, trees = tree[1], tree[2]
    if not isinstance(trees, tuple) or len(trees) < (1 if tree[0] == "less" else 2) or len(trees) > MOST_LEAVES:
        return None
    many = len(trees)
    if tree[0] == "rest":
        return [(below, with_remainder(piece, index, many, at)) for at, below in enumerate(trees)]
    parts = [(below, with_count(piece, index, at)) for at, below in enumerate(trees)]
    return [*parts, (tree[3], beyond_count(piece, index, many))]


def _step_down(tree, counts):
    """Return the tree to which counts lead, and their counts there."""
    if tree[0] == "compare":
        x, y = counts
        return (tree[1], (x, y - x)) if x <= y else (tree[2], (x - y - 1, y))
    _, index, trees = tree[:3]
    many, count = len(trees), counts[index]
    if tree[0] == "rest":
        return (trees[count % many], (*counts[:index], count // many, *counts[index + 1:]))
    if count < many:
        return (trees[count], counts[:index] + counts[index + 1:])
    return (tree[3], (*counts[:index], count - many, *counts[index + 1:]))
