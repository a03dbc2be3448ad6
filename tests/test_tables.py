"""Points 9 to 11: trees, leaves, tables and papers."""

import copy
import itertools
import random
import unittest

from tests import helper
from twinpurse.errors import BadArgument, BadFan, BadProgram, BadStanding
from twinpurse.fans import counts_of, standing_at
from twinpurse.reach import reach
from twinpurse.tables import is_paper, is_table, is_tree, leaf_of

GREAT = 10 ** 30
OUT = ("out",)
# Moves: 0 to 3 are steps, 4 and 5 tests.
PROGRAM = (2, ((0, 0, 1, 1), (0, 1, -1, 0), (1, 0, -2, -1), (1, 1, 0, 2)), ((0, 1), (1, 1)))
POINT = (0, (1, 0), ())
POINT_BEHIND = (1, (0, 0), ())
LINE = (0, (0, 3), ((1, 2),))
LINE_BEHIND = (1, (0, 5), ((1, 2),))
EVEN, ODD = (1, (0, 0), ((2, 0), (0, 1))), (1, (1, 0), ((2, 0), (0, 1)))
QUARTER = (0, (0, 0), ((1, 0), (0, 1)))
LOW, HIGH = (0, (0, 0), ((1, 1), (0, 1))), (0, (1, 0), ((1, 0), (1, 1)))
LOT = [POINT, POINT_BEHIND, LINE, LINE_BEHIND, EVEN, ODD, QUARTER, LOW, HIGH]
SAME = ((1, 0), (0, 1))
# A fan, a move, and a right tree.
RIGHT = (
    (POINT, 1, ("in", 1, (), ())),
    (POINT, 4, OUT),
    (POINT, 0, ("in", 6, (2, 1), ())),
    (POINT_BEHIND, 2, OUT),
    (POINT_BEHIND, 5, ("in", 1, (), ())),
    (POINT_BEHIND, 5, ("in", 4, (0, 0), ())),
    (LINE, 1, ("less", 0, (OUT,), ("in", 3, (0,), ((1,),)))),
    (LINE, 4, ("less", 0, (("in", 4, (0, 3), ()),), OUT)),
    (LINE, 0, ("in", 6, (1, 4), ((1, 2),))),
    (LINE, 0, ("rest", 0, (("in", 6, (1, 4), ((2, 4),)), ("in", 6, (2, 6), ((2, 4),))))),
    (LINE, 1, ("less", 0, (OUT,), ("rest", 0, (("in", 3, (0,), ((2,),)), ("in", 3, (1,), ((2,),)))))),
    (LINE, 1, ("less", 0, (OUT, ("in", 4, (0, 5), ()), ("in", 5, (0, 7), ())), ("in", 3, (2,), ((1,),)))),
    (LINE_BEHIND, 2, ("less", 0, (OUT, OUT), ("in", 6, (0, 8), ((1, 2),)))),
    (LINE_BEHIND, 3, ("rest", 0, (("in", 4, (0, 7), ((1, 4),)), ("in", 5, (0, 9), ((1, 4),))))),
    (QUARTER, 1, ("less", 0, (OUT,), ("rest", 0, (("in", 4, (0, 0), SAME), ("in", 5, (0, 0), SAME))))),
    (QUARTER, 4, ("less", 0, (("in", 4, (0, 0), ((0, 1),)),), OUT)),
    (QUARTER, 0, ("compare", ("in", 7, (1, 0), SAME), ("in", 8, (0, 1), SAME))),
    (QUARTER, 0, ("in", 6, (1, 1), SAME)),
    (QUARTER, 0, ("less", 1, (("in", 6, (1, 1), ((1, 0),)), ("in", 6, (1, 2), ((1, 0),))), ("in", 6, (1, 3), SAME))),
    (QUARTER, 1, ("rest", 1, tuple(
        ("less", 0, (OUT,), ("rest", 0, (("in", 4, (0, at), ((1, 0), (0, 3))), ("in", 5, (0, at), ((1, 0), (0, 3))))))
        for at in range(3)))),
    (EVEN, 2, ("less", 0, (OUT,), ("less", 1, (OUT,), ("in", 6, (0, 0), ((2, 0), (0, 1)))))),
    (EVEN, 2, ("less", 1, (OUT,), ("less", 0, (OUT,), ("compare", ("in", 6, (0, 0), ((2, 1), (0, 1))),
                                                      ("in", 6, (2, 0), ((2, 0), (2, 1))))))),
    (EVEN, 5, ("less", 0, (("in", 4, (0, 0), ((0, 1),)),), OUT)),
    (ODD, 5, OUT),
    (ODD, 2, ("less", 0, (OUT,), ("less", 1, (OUT,), ("in", 6, (1, 0), ((2, 0), (0, 1)))))),
    ((0, (0, 0), ((0, 1), (1, 0))), 1, ("less", 1, (OUT,), ("rest", 1, (("in", 4, (0, 0), ((0, 1), (1, 0))),
                                                                      ("in", 5, (0, 0), ((0, 1), (1, 0))))))),
    ((0, (0, GREAT), ()), 4, ("in", 4, (0, GREAT), ())),
    ((0, (2 * GREAT + 1, 7), ((GREAT, 3),)), 0, ("in", 6, (2 * GREAT + 2, 8), ((GREAT, 3),))),
)
TRIED = {0: [()], 1: [(x,) for x in range(40)], 2: list(itertools.product(range(14), repeat=2)) + [(0, 40), (40, 0)]}


def is_slow_leaf(leaf, size):
    if leaf[0] == "out":
        return leaf == OUT
    if len(leaf) != 4 or type(leaf[1]) is not int or leaf[1] < 0 or not is_counts(leaf[2]) or len(leaf[2]) > 2:
        return False
    return type(leaf[3]) is tuple and len(leaf[3]) == size and all(
        is_counts(row) and len(row) == len(leaf[2]) for row in leaf[3]
    )


def is_counts(value):
    return type(value) is tuple and all(type(number) is int and number >= 0 for number in value)


def is_slow_form(tree, size):
    """Whether this has the form of a tree for so many counts, whatever its depth."""
    if type(tree) is not tuple or not tree or type(tree[0]) is not str:
        return False
    if tree[0] in ("out", "in"):
        return is_slow_leaf(tree, size)
    if tree[0] == "compare":
        return len(tree) == 3 and size == 2 and all(is_slow_form(part, 2) for part in tree[1:])
    if tree[0] not in ("less", "rest") or len(tree) != (4 if tree[0] == "less" else 3):
        return False
    if type(tree[1]) is not int or not 0 <= tree[1] < size or type(tree[2]) is not tuple:
        return False
    if tree[0] == "rest":
        return len(tree[2]) > 1 and all(is_slow_form(part, size) for part in tree[2])
    return len(tree[2]) > 0 and all(is_slow_form(part, size - 1) for part in tree[2]) and is_slow_form(tree[3], size)


def is_slow_tree(program, lot, fan, move, tree):
    """Whether a tree is right, as far as many counts tell."""
    size = len(fan[2])
    if not is_slow_form(tree, size):
        return False
    for counts in TRIED[size]:
        leaf, own = helper.slow_leaf(tree, counts)
        led = helper.slow_make(program, standing_at(fan, counts), move)
        if leaf == OUT:
            if led is not None:
                return False
        else:
            _, index, begin, rows = leaf
            if led is None or index >= len(lot) or len(begin) != len(lot[index][2]):
                return False
            sums = tuple(b + sum(c * row[at] for c, row in zip(own, rows)) for at, b in enumerate(begin))
            if standing_at(lot[index], sums) != led:
                return False
    return True


def changed_trees(tree):
    """Yield what differs in one place from a tree: a number, a name, a part left out, twice or exchanged."""
    for path in helper.places(tree, int):
        for more in (1, -1, 2):
            yield helper.put(tree, path, helper.part_at(tree, path) + more)
        yield helper.put(tree, path, True)
    for path in helper.places(tree, str):
        for name in ("out", "in", "less", "rest", "compare", "Out", "", None, 0):
            yield helper.put(tree, path, name)
    for path in helper.places(tree, tuple):
        part = helper.part_at(tree, path)
        for at in range(len(part)):
            yield helper.put(tree, path, part[:at] + part[at + 1:])
            yield helper.put(tree, path, part[:at] + (part[at],) + part[at:])
            if at + 1 < len(part):
                yield helper.put(tree, path, part[:at] + (part[at + 1], part[at]) + part[at + 2:])
        for other in (OUT, ("in", 6, (1, 1), ()), ("in", 1, (), ()), (), [], None, list(part), "out"):
            yield helper.put(tree, path, other)


class IsTree(unittest.TestCase):
    def test_right_trees(self):
        for fan, move, tree in RIGHT:
            self.assertIs(is_tree(PROGRAM, LOT, fan, move, tree), True, (fan, move, tree))

    def test_right_trees_by_many_counts(self):
        for fan, move, tree in RIGHT:
            self.assertTrue(is_slow_tree(PROGRAM, LOT, fan, move, tree), (fan, move, tree))

    def compared(self, program, lot, fan, move, tree):
        wanted = is_slow_tree(program, lot, fan, move, tree)
        self.assertIs(is_tree(program, lot, fan, move, tree), wanted, (program, lot, fan, move, tree))
        return wanted

    def test_changed_in_one_place(self):
        seen = {True: 0, False: 0}
        for fan, move, tree in RIGHT:
            for changed in changed_trees(tree):
                seen[self.compared(PROGRAM, LOT, fan, move, changed)] += 1
        self.assertGreater(seen[True], 50)
        self.assertGreater(seen[False], 3000)

    def test_other_moves_and_fans(self):
        seen = {True: 0, False: 0}
        ends = helper.sources_and_targets(PROGRAM)
        for fan, _, tree in RIGHT:
            for move, (source, _) in enumerate(ends):
                for other in (fan, (fan[0], (fan[1][0] + 1, fan[1][1]), fan[2]), (fan[0], fan[1], fan[2][::-1])):
                    if source == fan[0]:
                        seen[self.compared(PROGRAM, LOT, other, move, tree)] += 1
            for rays in ((), ((1, 1),), ((0, 1),), ((1, 0), (1, 1))):
                for move in range(6):
                    if ends[move][0] == fan[0]:
                        seen[self.compared(PROGRAM, LOT, (fan[0], fan[1], rays), move, tree)] += 1
        self.assertGreater(seen[True], 30)
        self.assertGreater(seen[False], 300)

    def test_trees_of_papers(self):
        rng = random.Random(9)
        seen = {True: 0, False: 0}
        for program, start in helper.drawn_cases(10, 40):
            lot, _, table = reach(program, start)
            ends = helper.sources_and_targets(program)
            for fan, trees in rng.sample(list(zip(lot, table)), min(2, len(lot))):
                moves = [move for move, (source, _) in enumerate(ends) if source == fan[0]]
                for move, tree in zip(moves, trees):
                    self.assertTrue(self.compared(program, lot, fan, move, tree))
                    changed = list(changed_trees(tree))
                    for other in rng.sample(changed, min(40, len(changed))):
                        seen[self.compared(program, lot, fan, move, other)] += 1
        self.assertGreater(seen[False], 500)

    def test_out_behind_counts(self):
        # Out must be right for all counts of the leaf; here it is so for some only.
        self.assertFalse(is_tree(PROGRAM, LOT, LINE, 1, OUT))
        self.assertFalse(is_tree(PROGRAM, LOT, QUARTER, 4, OUT))
        self.assertTrue(is_tree(PROGRAM, LOT, (0, (1, 0), ((1, 0), (0, 1))), 4, OUT))
        self.assertTrue(is_tree(PROGRAM, LOT, (0, (0, 5), ((0, 1),)), 1, OUT))
        self.assertTrue(is_tree(PROGRAM, LOT, (1, (5, 0), ((1, 0),)), 2, OUT))
        self.assertFalse(is_tree(PROGRAM, LOT, (1, (1, 1), ((1, 0),)), 2, OUT))

    def test_depth(self):
        def chain(many):
            tree = ("in", 6, (1, 4 + many), ((0, 1),))
            for at in range(many - 1, -1, -1):
                tree = ("less", 0, (("in", 6, (1, 4 + at), ()),), tree)
            return tree

        fan = (0, (0, 3), ((0, 1),))
        for many in (1, 59, 60):
            self.assertTrue(is_tree(PROGRAM, LOT, fan, 0, chain(many)), many)
        for many in (61, 62, 300):
            self.assertFalse(is_tree(PROGRAM, LOT, fan, 0, chain(many)), many)
        self.assertEqual(leaf_of(chain(60), (59,)), (("in", 6, (1, 63), ()), ()))
        self.assertEqual(leaf_of(chain(60), (GREAT,)), (("in", 6, (1, 64), ((0, 1),)), (GREAT - 60,)))
        self.assertRaises(BadArgument, leaf_of, chain(61), (0,))

    def test_leaves(self):
        fan = (0, (0, 0), ((0, 1),))

        def wide(many):
            return ("rest", 0, tuple(("in", 6, (1, 1 + at), ((0, many),)) for at in range(many)))

        self.assertTrue(is_tree(PROGRAM, LOT, fan, 0, wide(30000)))
        self.assertTrue(is_tree(PROGRAM, LOT, fan, 0, wide(100000)))
        self.assertFalse(is_tree(PROGRAM, LOT, fan, 0, wide(100001)))

    def test_leaves_count_as_often_as_they_stand_there(self):
        fan = (0, (0, 0), ((0, 1),))
        tree = OUT
        for _ in range(60):
            tree = ("rest", 0, (tree, tree))
        self.assertFalse(is_tree(PROGRAM, LOT, fan, 1, tree))
        self.assertRaises(BadArgument, leaf_of, tree, (5,))
        small = ("rest", 0, (OUT,) * 10)
        for many, right in ((10000, True), (10001, False)):
            self.assertIs(is_tree(PROGRAM, LOT, fan, 1, ("rest", 0, (small,) * many)), right)
        self.assertIs(is_tree(PROGRAM, LOT, fan, 1, ("less", 0, (OUT,) * 99999, OUT)), True)
        self.assertIs(is_tree(PROGRAM, LOT, fan, 1, ("less", 0, (OUT,) * 100000, OUT)), False)

    def test_moves_that_are_not_there(self):
        for move in (-1, 6, 2, 3, 5, GREAT, True, False, None, "0", (0,)):
            self.assertRaises(BadArgument, is_tree, PROGRAM, LOT, QUARTER, move, OUT)
            self.assertRaises(BadArgument, is_tree, PROGRAM, LOT, QUARTER, move, None)
        for move in (0, 1, 4):
            self.assertRaises(BadArgument, is_tree, PROGRAM, LOT, EVEN, move, OUT)
        for move in range(6):
            self.assertRaises(BadArgument, is_tree, PROGRAM, LOT, (2, (0, 0), ()), move, OUT)

    def test_errors_in_their_order(self):
        for program in helper.NO_PROGRAMS:
            self.assertRaises(BadProgram, is_tree, program, None, None, None, None)
        for lot in (None, (), (POINT,), "", {}, [None], [POINT, (0, (0, 0))], True):
            self.assertRaises(BadFan, is_tree, PROGRAM, lot, POINT, 99, OUT)
        for fan in (None, [], (0, (0, 0)), (3, (0, 0), ()), [0, (0, 0), ()]):
            self.assertRaises(BadFan, is_tree, PROGRAM, LOT, fan, 99, OUT)

    def test_everything_else_is_no_tree(self):
        for wrong in (None, True, False, 0, "", "out", [], {}, (), ["out"], (("out",),), ("out", ()), ("in",), (None,)):
            self.assertIs(is_tree(PROGRAM, LOT, POINT, 4, wrong), False)
            self.assertRaises(BadArgument, leaf_of, wrong, ())

    def test_index_of_a_fan_that_is_not_there(self):
        self.assertFalse(is_tree(PROGRAM, LOT, POINT_BEHIND, 5, ("in", len(LOT), (), ())))
        self.assertFalse(is_tree(PROGRAM, LOT, POINT_BEHIND, 5, ("in", -8, (), ())))
        self.assertFalse(is_tree(PROGRAM, [], POINT_BEHIND, 5, ("in", 0, (), ())))
        # The same purses in another room.
        self.assertFalse(is_tree(PROGRAM, [(0, (0, 0), ())], POINT_BEHIND, 5, ("in", 0, (), ())))


class LeafOf(unittest.TestCase):
    def test_against_going_down(self):
        for fan, _, tree in RIGHT:
            for counts in TRIED[len(fan[2])]:
                self.assertEqual(leaf_of(tree, counts), helper.slow_leaf(tree, counts))

    def test_great_counts(self):
        tree = ("compare", ("rest", 0, (OUT, ("in", 7, (), ((), ())))), ("less", 1, (("in", 8, (1,), ((4,),)),), OUT))
        self.assertEqual(leaf_of(tree, (GREAT + 1, 3 * GREAT)), (("in", 7, (), ((), ())), (GREAT // 2, 2 * GREAT - 1)))
        self.assertEqual(leaf_of(tree, (GREAT, 0)), (("in", 8, (1,), ((4,),)), (GREAT - 1,)))
        self.assertEqual(leaf_of(tree, (3 * GREAT, GREAT)), (OUT, (2 * GREAT - 1, GREAT - 1)))

    def test_the_edges_of_compare(self):
        tree = ("compare", OUT, ("in", 0, (), ((), ())))
        self.assertEqual(leaf_of(tree, (4, 4)), (OUT, (4, 0)))
        self.assertEqual(leaf_of(tree, (4, 3)), (("in", 0, (), ((), ())), (0, 3)))

    def test_each_leaf_by_itself(self):
        tree = ("rest", 0, (("in", 0, (), ((),)), ("in", 5, (1,), ((2,),)), ("in", GREAT, (0, 0), ((0, 7),)), OUT))
        self.assertEqual(leaf_of(tree, (6,)), (("in", GREAT, (0, 0), ((0, 7),)), (1,)))

    def test_all_leaves_are_looked_at(self):
        for wrong in (
            ("in", 0, (0, 0, 0), ((0, 0, 0),)), ("in", 0, (0,), ((0, 0),)), ("in", 0, (0,), ()), ("in", 0, (0,), (0,)),
            ("in", 0, (0,), ((0,), (0,))), ("in", -1, (0,), ((0,),)), ("in", True, (0,), ((0,),)), ("out", 0), OUT[:0],
            ("in", 0, (-1,), ((0,),)), ("in", 0, (0,), ((-1,),)), ("in", 0, [0], ((0,),)), ("in", 0, (0,), [(0,)]),
            ("in", 0, (0,), ([0],)), ("in", 0, (0,), ((None,),)), ("compare", OUT, OUT), None, ["out"],
            ("less", 1, (OUT,), OUT), ("less", -1, (OUT,), OUT), ("less", True, (OUT,), OUT), ("less", 0, (), OUT),
            ("less", 0, [OUT], OUT), ("less", 0, (OUT,)), ("rest", 0, (OUT,)), ("rest", 0, ()), ("rest", 1, (OUT, OUT)),
            ("less", 0, (("in", 0, (0,), ((0,),)),), OUT), ("rest", 0, (OUT, OUT), OUT),
        ):
            self.assertRaises(BadArgument, leaf_of, ("rest", 0, (OUT, wrong)), (0,))
            self.assertRaises(BadArgument, leaf_of, ("less", 0, (OUT,), wrong), (0,))
            self.assertFalse(is_tree(PROGRAM, LOT, (0, (0, 0), ((0, 1),)), 1, ("rest", 0, (OUT, wrong))))
        self.assertEqual(leaf_of(("rest", 0, (OUT, ("less", 0, (OUT,), OUT))), (0,)), (OUT, (0,)))

    def test_counts_that_are_none(self):
        for counts in (None, [], [0], 0, "", (True,), (-1,), (0, 0, 0), ("0",), (0, None), {}):
            self.assertRaises(BadArgument, leaf_of, OUT, counts)

    def test_so_many_counts(self):
        self.assertEqual(leaf_of(OUT, ()), (OUT, ()))
        self.assertEqual(leaf_of(OUT, (3, 4)), (OUT, (3, 4)))
        self.assertRaises(BadArgument, leaf_of, ("less", 0, (OUT,), OUT), ())
        self.assertRaises(BadArgument, leaf_of, ("compare", OUT, OUT), (1,))
        self.assertRaises(BadArgument, leaf_of, ("in", 0, (), ()), (1,))
        self.assertRaises(BadArgument, leaf_of, ("less", 0, (("less", 1, (OUT,), OUT),), OUT), (1, 1))
        self.assertEqual(leaf_of(("less", 0, (("less", 0, (OUT,), OUT),), OUT), (0, 5)), (OUT, (4,)))


SMALL = (2, ((0, 0, 1, 0), (0, 1, -2, 1)), ((1, 1),))
SMALL_START = (0, 0, 0)
SMALL_LOT = [(0, (0, 0), ((1, 0),)), (1, (0, 1), ((1, 0),))]
SMALL_ROADS = ((("ring", (0,), (0, 1)),), (("ring", (0,), (2, 1)), ("walk", (1,))))
SMALL_TABLE = (
    (("in", 0, (1,), ((1,),)), ("less", 0, (OUT, OUT), ("in", 1, (0,), ((1,),)))),
    (("less", 0, (("in", 1, (0,), ()),), OUT),),
)
SMALL_PAPER = (SMALL_LOT, SMALL_ROADS, SMALL_TABLE)


class IsTable(unittest.TestCase):
    def test_right_tables(self):
        self.assertIs(is_table(SMALL, SMALL_LOT, SMALL_TABLE), True)
        self.assertIs(is_table(SMALL, [], ()), True)
        # A fan in a room that the program does not have.
        self.assertIs(is_table(SMALL, [(2, (0, 0), ((1, 1),))], ((),)), True)
        self.assertIs(is_table(SMALL, [(2, (0, 0), ((1, 1),)), *SMALL_LOT], ((), *SMALL_TABLE)), False)
        self.assertIs(is_table(SMALL, [*SMALL_LOT, (2, (0, 0), ((1, 1),))], (*SMALL_TABLE, ())), True)

    def test_rows(self):
        first, second = SMALL_TABLE
        for wrong in (
            (), (first,), (first, second, second), (first, second, ()), (second, first), (first[:1], second),
            (first, ()), (first, second * 2), (first[::-1], second), (first + (OUT,), second), (first, (OUT,)),
            [first, second], (list(first), second), None, True, 0, "", {}, (None, second), (first, None),
        ):
            self.assertIs(is_table(SMALL, SMALL_LOT, wrong), False, wrong)

    def test_not_closed(self):
        self.assertFalse(is_table(SMALL, SMALL_LOT[:1], SMALL_TABLE[:1]))
        self.assertTrue(is_table(SMALL, [(0, (0, 0), ((1, 0),)), (1, (0, 1), ((1, 0),))], SMALL_TABLE))

    def test_errors_in_their_order(self):
        self.assertRaises(BadProgram, is_table, (1, ()), None, None)
        for lot in (None, (), tuple(SMALL_LOT), [None], "", {}):
            self.assertRaises(BadFan, is_table, SMALL, lot, None)


class IsPaper(unittest.TestCase):
    def test_a_right_paper(self):
        self.assertIs(is_paper(SMALL, SMALL_START, SMALL_PAPER), True)

    def test_starts(self):
        # The start must be in the lot, and the roads must begin there.
        for start in ((0, 1, 0), (0, 0, 1), (1, 0, 1), (1, 0, 0)):
            self.assertIs(is_paper(SMALL, start, SMALL_PAPER), False, start)
        great = [(0, (GREAT, 0), ()), (1, (GREAT - 2, 1), ())]
        program = (2, ((0, 1, -2, 1),), ((1, 1),))
        table = ((("in", 1, (), ()),), (OUT,))
        self.assertTrue(is_paper(program, (0, GREAT, 0), (great, ((), (("walk", (0,)),)), table)))
        # All is right but that the start is not in the lot.
        self.assertFalse(is_paper(program, (0, GREAT, 0), (great[1:], ((("walk", (0,)),),), ((OUT,),))))
        self.assertFalse(is_paper(program, (0, GREAT, 0), ([], (), ())))

    def test_changed_in_one_place(self):
        kept = copy.deepcopy(SMALL_PAPER)
        right = 0
        for path in helper.places(SMALL_PAPER, int):
            for more in (1, -1):
                changed = helper.put(SMALL_PAPER, path, helper.part_at(SMALL_PAPER, path) + more)
                self.assertFalse(is_paper(SMALL, SMALL_START, changed), changed)
            self.assertFalse(is_paper(SMALL, SMALL_START, helper.put(SMALL_PAPER, path, True)))
        for path in helper.places(SMALL_PAPER, tuple):
            part = helper.part_at(SMALL_PAPER, path)
            for wrong in (list(part), None, True, "", 7):
                self.assertIs(is_paper(SMALL, SMALL_START, helper.put(SMALL_PAPER, path, wrong)), False)
            for at in range(len(part)):
                for changed in (part[:at] + part[at + 1:], part[:at] + (part[at],) + part[at:]):
                    wanted = changed == part
                    right += wanted
                    self.assertIs(is_paper(SMALL, SMALL_START, helper.put(SMALL_PAPER, path, changed)), wanted,
                                  (path, changed))
        self.assertEqual(SMALL_PAPER, kept)
        self.assertEqual(right, 0)

    def test_parts_of_another_kind(self):
        for wrong in (None, True, 0, "", [], {}, (), SMALL_PAPER[:2], SMALL_PAPER + ((),), list(SMALL_PAPER)):
            self.assertIs(is_paper(SMALL, SMALL_START, wrong), False)
        for lot in (None, tuple(SMALL_LOT), (), "", {}, [None], SMALL_LOT[:1], SMALL_LOT[::-1], SMALL_LOT * 2):
            self.assertIs(is_paper(SMALL, SMALL_START, (lot, SMALL_ROADS, SMALL_TABLE)), False)
        for roads in (None, list(SMALL_ROADS), (), SMALL_ROADS[:1], SMALL_ROADS[::-1], SMALL_ROADS * 2, (None, None)):
            self.assertIs(is_paper(SMALL, SMALL_START, (SMALL_LOT, roads, SMALL_TABLE)), False)

    def test_a_lot_that_leads_out(self):
        self.assertFalse(is_paper(SMALL, SMALL_START, (SMALL_LOT[:1], SMALL_ROADS[:1], SMALL_TABLE[:1])))

    def test_the_order_of_fans_is_free(self):
        lot = SMALL_LOT[::-1]
        table = (
            (("less", 0, (("in", 0, (0,), ()),), OUT),),
            (("in", 1, (1,), ((1,),)), ("less", 0, (OUT, OUT), ("in", 0, (0,), ((1,),)))),
        )
        self.assertTrue(is_paper(SMALL, SMALL_START, (lot, SMALL_ROADS[::-1], table)))

    def test_errors_in_their_order(self):
        self.assertRaises(BadProgram, is_paper, (1, ()), None, None)
        for start in (None, (2, 0, 0), (0, -1, 0), [0, 0, 0], (0, 0)):
            self.assertRaises(BadStanding, is_paper, SMALL, start, SMALL_PAPER)

    def test_a_paper_tells_what_is_reached(self):
        lot = reach(SMALL, SMALL_START)[0]
        for standing in itertools.product((0, 1), range(6), range(4)):
            told = any(counts_of(fan, standing) is not None for fan in lot)
            self.assertEqual(told, any(counts_of(fan, standing) is not None for fan in SMALL_LOT))


if __name__ == "__main__":
    unittest.main()
