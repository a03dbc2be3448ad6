"""The form of trees, whatever they are told for: how many leaves they have.

A tree may hold one and the same tuple at very many places. What is equal to the tree beside it has as many leaves,
so that it need not be counted once more; only its numbers are still to be looked at, since True is equal to 1.
"""

DEEPEST = 60
MOST_LEAVES = 100000
MOST_COUNTS = 2
OUT = ("out",)


def leaves_in(tree, size, deepest, with_in):
    """Return how many leaves a tree for so many counts has, or 0 for what is none.

    It may be so deep, and have in among its leaves or not.
    """
    look = Look(with_in)
    found = _leaves_of(tree, size, deepest, look)
    if look.has_equal_trees and found and not _has_integers(tree):
        return 0
    return found


def is_in_leaf(leaf, size):
    """Whether a tuple is a leaf with in for so many counts, by itself."""
    if len(leaf) != 4:
        return False
    _, index, begin, rows = leaf
    if not isinstance(begin, tuple) or len(begin) > MOST_COUNTS or not isinstance(rows, tuple) or len(rows) != size:
        return False
    numbers = [index, *begin]
    for row in rows:
        if not isinstance(row, tuple) or len(row) != len(begin):
            return False
        numbers.extend(row)
    return _are_integers(numbers) and min(numbers) >= 0


class Look:
    """What a look at a tree goes by: whether in may be among its leaves, and whether equal trees were passed over."""

    def __init__(self, with_in):
        self.with_in = with_in
        self.has_equal_trees = False


def _leaves_of(tree, size, deepest, look):
    if tree == OUT:
        return 1
    if not isinstance(tree, tuple) or len(tree) < 3:
        return 0
    if tree[0] == "in":
        return 1 if look.with_in and is_in_leaf(tree, size) else 0
    if deepest == 0:
        return 0
    if tree[0] == "compare":
        return _leaves_of_all(tree[1:], size, deepest - 1, look) if size == 2 and len(tree) == 3 else 0
    if not _are_integers([tree[1]]) or not 0 <= tree[1] < size or not isinstance(tree[2], tuple):
        return 0
    if tree[0] == "rest":
        return _leaves_of_all(tree[2], size, deepest - 1, look) if len(tree) == 3 and len(tree[2]) > 1 else 0
    if tree[0] != "less" or len(tree) != 4 or not tree[2]:
        return 0
    fewer = _leaves_of_all(tree[2], size - 1, deepest - 1, look)
    more = _leaves_of(tree[3], size, deepest - 1, look) if fewer else 0
    return fewer + more if more and fewer + more <= MOST_LEAVES else 0


def _leaves_of_all(trees, size, deepest, look):
    if len(trees) > MOST_LEAVES:
        return 0
    found = trees.count(OUT)
    if found == len(trees):
        return found
    before, many = None, 0
    for tree in trees:
        if tree == OUT:
            continue
        # What is compared was counted before, so that this cannot go on too long or too deep.
        if many and tree == before:
            look.has_equal_trees = True
        else:
            before, many = tree, _leaves_of(tree, size, deepest, look)
        found += many
        if many == 0 or found > MOST_LEAVES:
            return 0
    return found


def _has_integers(tree):
    """Whether all numbers are integers in what is equal to a tree."""
    level = [tree]
    while level:
        below, numbers = [], []
        for at in level:
            name = at[0]
            if name == "rest" or name == "less":
                numbers.append(at[1])
                below.extend(at[2])
                if name == "less":
                    below.append(at[3])
            elif name == "compare":
                below.extend(at[1:])
            elif name == "in":
                numbers.append(at[1])
                numbers.extend(at[2])
                for row in at[3]:
                    numbers.extend(row)
        if not _are_integers(numbers):
            return False
        # Most often the last level has many leaves without numbers.
        level = below if below and (below[0] != OUT or below.count(OUT) < len(below)) else []
    return True


def _are_integers(numbers):
    for number in numbers:
        if number is True or number is False or not isinstance(number, int):
            return False
    return True
