"""Points 9 to 11 near the bound of leaves: trees with one tuple at very many places, and very many side by side."""

import time
import unittest

from twinpurse.errors import BadArgument
from twinpurse.tables import is_paper, is_table, is_tree, leaf_of

GREAT = 10 ** 30
OUT = ("out",)
IN = ("in", 3, (1,), ((2,),))
# In the room 1 the test cannot be made: there is 1 in the first purse.
PROGRAM = (2, (), ((1, 1),))
LINE = (1, (1, 0), ((0, 1),))
QUARTER = (1, (1, 0), ((0, 1), (1, 1)))
STEPPED = (1, ((0, 0, 1, 0),), ())
TESTED = (1, (), ((0, 0),))
ALONG = (0, (0, 0), ((1, 0),))
WRONG_LEAVES = (
    ("out", 0), ("out", ()), ("Out",), (), ["out"], None, "out", 0, ("in",), ("in", 3, (1,)),
    ("in", 3, (1,), ((2,),), 0),
    ("in", -1, (1,), ((2,),)), ("in", True, (1,), ((2,),)), ("in", 3, (True,), ((2,),)), ("in", 3, (1,), ((True,),)),
    ("in", 3, (1.0,), ((2,),)), ("in", 3, (1,), ((2, 0),)), ("in", 3, (1,), ()), ("in", 3, (1,), ((2,), (2,))),
    ("in", 3, [1], ((2,),)), ("in", 3, (1,), ([2],)), ("in", 3, (1, 0, 0), ((2, 0, 0),)), ("in", 3, (-1,), ((2,),)),
    ("rest", 0, (OUT,)), ("rest", 0, ()), ("rest", 1, (OUT, OUT)), ("rest", False, (OUT, OUT)), ("less", 0, (), OUT),
    ("less", 0, (OUT,)), ("less", False, (OUT,), OUT), ("compare", OUT, OUT), ("rest", 0, [OUT, OUT]), ("rest", 0, OUT),
)


def doubled(tree, times):
    """The tree put into two equal places of a rest, so many times over."""
    for _ in range(times):
        tree = ("rest", 0, (tree, tree))
    return tree


def compared(tree, times):
    for _ in range(times):
        tree = ("compare", tree, tree)
    return tree


def lessened(tree, times):
    for _ in range(times):
        tree = ("less", 0, (OUT,), ("rest", 0, (tree, tree)))
    return tree


def apart(times, name=0):
    """As doubled, with no tuple twice."""
    if times == 0:
        return tuple(["out"])
    return ("rest", name, tuple([apart(times - 1, name), apart(times - 1, name)]))


def put_in(tree, places, leaf):
    """The tree with another one at a place in it: the last of the trees for 1, the first one for 0."""
    if not places:
        return leaf
    trees = list(tree[2])
    trees[places[0]] = put_in(trees[places[0]], places[1:], leaf)
    return tree[:2] + (tuple(trees),) + tree[3:]


class LeafTest(unittest.TestCase):
    def assert_told(self, tree, counts, leaf, own):
        self.assertEqual(leaf_of(tree, counts), (leaf, own))

    def assert_none(self, tree, counts=(7,)):
        with self.assertRaises(BadArgument):
            leaf_of(tree, counts)

    def test_doubled(self):
        self.assert_told(doubled(OUT, 16), (GREAT,), OUT, (GREAT // 65536,))
        self.assert_told(doubled(IN, 16), (GREAT,), IN, (GREAT // 65536,))
        self.assert_told(apart(16), (GREAT,), OUT, (GREAT // 65536,))
        self.assert_told(lessened(OUT, 15), (3,), OUT, ())
        self.assert_told(lessened(OUT, 15), (2 ** 15 - 2,), OUT, ())
        self.assert_told(lessened(OUT, 15), (2 ** 15 - 1,), OUT, (0,))
        self.assert_told(compared(OUT, 16), (1, GREAT), OUT, (1, GREAT - 16))

    def test_too_many_at_equal_places(self):
        for times in (17, 18, 40, 59, 60, 61, 1000):
            self.assert_none(doubled(OUT, times), (1,))
            self.assert_none(compared(OUT, times), (1, 1))
        self.assert_none(lessened(OUT, 16), (1,))
        self.assert_none(("rest", 0, (doubled(OUT, 59), doubled(OUT, 59))))
        self.assert_none(("rest", 0, (OUT, doubled(OUT, 59), doubled(("rest", 0, (OUT, OUT)), 58))))

    def test_side_by_side(self):
        self.assert_told(("rest", 0, (OUT,) * 100000), (7,), OUT, (0,))
        self.assert_told(("less", 0, (OUT,) * 99999, OUT), (7,), OUT, ())
        self.assert_told(("less", 0, (OUT,) * 99999, OUT), (99999,), OUT, (0,))
        self.assert_told(("rest", 0, (IN,) * 100000), (7,), IN, (0,))
        self.assert_none(("rest", 0, (OUT,) * 100001))
        self.assert_none(("rest", 0, (IN,) * 100001))
        self.assert_none(("less", 0, (OUT,) * 100000, OUT))
        self.assert_none(("rest", 0, (("rest", 0, (OUT,) * 100000), OUT)))
        self.assert_none(("rest", 0, (OUT, ("rest", 0, (OUT,) * 100000))))
        self.assert_none(("rest", 0, (("rest", 0, (OUT,) * 100000),) * 100000))

    def test_just_so_many(self):
        many, most = doubled(OUT, 16), 100000 - 65536
        self.assert_told(("rest", 0, (many,) + (OUT,) * most), (1,), OUT, (0,))
        self.assert_none(("rest", 0, (many,) + (OUT,) * (most + 1)))
        self.assert_told(("rest", 0, (OUT,) * most + (many,)), (1,), OUT, (0,))
        self.assert_none(("rest", 0, (OUT,) * (most + 1) + (many,)))
        thousand = ("rest", 0, (OUT, IN) * 500)
        self.assert_told(("rest", 0, (thousand,) * 100), (101,), IN, (0,))
        self.assert_none(("rest", 0, (thousand,) * 100 + (OUT,)))
        self.assert_none(("less", 0, (OUT,), ("rest", 0, (thousand,) * 100)))
        pair = ("compare", ("less", 0, (("rest", 0, (OUT,) * 50),), OUT), ("rest", 1, (OUT,) * 49))
        self.assert_told(("rest", 1, (pair,) * 1000), (0, 0), OUT, (0,))
        self.assert_none(("rest", 1, (pair,) * 999 + (("rest", 0, (pair, OUT)),)), (0, 0))

    def test_many_different_ones(self):
        leaves = tuple([("in", at, (), ((),)) for at in range(100000)])
        self.assert_told(("rest", 0, leaves), (99999,), leaves[99999], (0,))
        self.assert_none(("rest", 0, leaves + (OUT,)))
        rows = tuple([("rest", 0, leaves[at:at + 100]) for at in range(0, 100000, 100)])
        self.assert_told(("rest", 0, rows), (2003,), leaves[302], (0,))
        self.assert_none(("less", 0, (OUT,), ("rest", 0, rows)))

    def test_depth(self):
        self.assert_told(("rest", 0, (lessened(OUT, 5), doubled(OUT, 10))), (0,), OUT, ())
        tall = OUT
        for _ in range(60):
            tall = ("less", 0, (OUT,), tall)
        self.assert_told(tall, (60,), OUT, (0,))
        self.assert_none(("less", 0, (OUT,), tall))
        self.assert_none(("rest", 0, (OUT, tall)))
        self.assert_none(("rest", 0, (OUT,) * 9 + (tall,)))

    def test_depth_in_each_place(self):
        for put in (
            lambda tree: ("rest", 0, (OUT, tree)), lambda tree: ("rest", 1, (tree, OUT, OUT)),
            lambda tree: ("compare", tree, OUT), lambda tree: ("compare", OUT, tree),
            lambda tree: ("less", 1, (OUT, OUT), tree),
        ):
            tall = OUT
            for _ in range(60):
                tall = put(tall)
            self.assertEqual(leaf_of(tall, (0, 0))[0], OUT)
            self.assert_none(put(tall), (0, 0))
            self.assert_none(("less", 0, (OUT,), tall), (0, 0))
        tall = OUT
        for _ in range(59):
            tall = ("less", 0, (OUT,), tall)
        self.assertEqual(leaf_of(("less", 1, (tall, tall), OUT), (0, 0))[0], OUT)
        self.assert_none(("less", 1, (OUT, ("less", 0, (OUT,), tall)), OUT), (0, 0))

    def test_other_forms(self):
        for wrong in (
            ("compare", OUT), ("compare",), ("compare", OUT, OUT, OUT), ("compare", (OUT, OUT)), ("compare", 0, (OUT,
            OUT)),
            ("more", 0, (OUT,), OUT), ("rest", 0, (OUT, OUT), OUT), ("less", 0, (OUT, OUT)), ("less", 2, (OUT,), OUT),
            ("less", 0, (("rest", 1, (OUT, OUT)),), OUT), ("less", 0, OUT, OUT), ("rest", -1, (OUT, OUT)),
            ("less", 0, (("compare", OUT, OUT),), OUT), ("less", 0, (("in", 0, (), ((), ())),), OUT),
        ):
            self.assert_none(wrong, (1, 1))
            self.assert_none(("compare", wrong, OUT), (1, 1))
            self.assert_none(("compare", OUT, wrong), (1, 1))
            self.assert_none(("rest", 1, (OUT, OUT, wrong)), (1, 1))
            self.assert_none(("less", 1, (OUT, OUT), wrong), (1, 1))

    def test_one_wrong_leaf(self):
        for wrong in WRONG_LEAVES:
            for tree, places in ((doubled(OUT, 16), 16), (doubled(IN, 13), 13)):
                for at in ([1] * places, [0] * places, ([0, 1, 1] * places)[:places]):
                    self.assert_none(put_in(tree, at, wrong), (GREAT,))
            for leaf in (OUT, IN):
                self.assert_none(("rest", 0, (leaf,) * 50000 + (wrong,) + (leaf,) * 40000))
                self.assert_none(("rest", 0, (leaf,) * 90000 + (wrong,)))
                self.assert_none(("rest", 0, (wrong,) + (leaf,) * 90000))

    def test_one_wrong_tree_in_the_middle(self):
        tree = doubled(OUT, 15)
        for deep in (0, 1, 7, 13):
            inner = doubled(OUT, 15 - deep)
            below = inner[2]
            for wrong in (("rest", False, below), ("rest", 0.0, below), ("rest", 1, below), ("rest", -1, below),
                          ("rest", 0, list(below)), ("rest", 0, below[:1]), ("Rest", 0, below), ("rest", 0, below, 0),
                          ["rest", 0, below], ("less", False, (OUT,), inner), ("less", 0, (), inner),
                          ("rest", None, below),
                          ("less", 0, (below[0],), inner), ("compare", *below)):
                for side in (0, 1):
                    self.assert_none(put_in(tree, [side] * deep, wrong), (GREAT,))
        pairs = doubled(OUT, 1)
        self.assert_none(("rest", 0, (pairs,) * 30000 + (("rest", False, (OUT, OUT)),) + (pairs,) * 9000))
        right, wrong = [compared(("rest", at, (compared(OUT, 8),) * 2), 5) for at in (1, True)]
        self.assert_told(("compare", right, right), (1, 9), OUT, (0, 0))
        self.assert_none(("compare", right, wrong), (1, 1))

    def test_equal_trees_apart(self):
        # What is equal in all but a True is not the same.
        right, wrong = apart(9), apart(9, False)
        self.assertEqual(right, wrong)
        self.assert_told(("rest", 0, (right,) * 100), (5,), OUT, (0,))
        self.assert_none(("rest", 0, (right,) * 99 + (wrong,)))
        self.assert_none(("rest", 0, (wrong,) + (right,) * 99))
        self.assert_none(("compare", ("rest", 1, (OUT, OUT)), ("rest", True, (OUT, OUT))), (1, 1))
        self.assert_none(("less", 0, (("in", 1, (), ((),)), ("in", True, (), ((),))), OUT), (0, 1))
        for put in (
            lambda tree: ("compare", tree, OUT), lambda tree: ("compare", OUT, tree), lambda tree: ("rest", 1, (tree,
                OUT)),
            lambda tree: ("less", 0, (OUT,), tree), lambda tree: ("rest", 0, (OUT, OUT, tree)),
        ):
            for right, wrong in (
                (("rest", 1, (OUT, OUT)), ("rest", True, (OUT, OUT))), (("rest", 0, (OUT, OUT)), ("rest", 0.0, (OUT,
                OUT))),
                (("less", 0, (OUT,), OUT), ("less", False, (OUT,), OUT)),
                (("in", 0, (1,), ((0,), (1,))), ("in", 0, (1,), ((0,), (True,)))),
                (("in", 0, (1,), ((0,), (1,))), ("in", 0, (1.0,), ((0,), (1,)))),
            ):
                self.assertEqual(put(right), put(wrong))
                self.assertEqual(leaf_of(("rest", 0, (put(right), put(right))), (0, 9)), leaf_of(put(right), (0, 9)))
                self.assert_none(("rest", 0, (put(right), put(wrong))), (0, 9))
                self.assert_none(("compare", put(right), put(wrong)), (0, 9))

    def test_counts_of_another_size(self):
        for counts in ((), (1, 1)):
            self.assert_none(doubled(IN, 10), counts)
        self.assert_none(doubled(OUT, 10), ())
        self.assert_none(compared(OUT, 10), (1,))
        self.assert_told(doubled(OUT, 10), (1, 2), OUT, (0, 2))


class RightTest(unittest.TestCase):
    def assert_all(self, told, program, fan, move, tree):
        lot = [fan]
        self.assertIs(is_tree(program, lot, fan, move, tree), told)
        self.assertIs(is_table(program, lot, ((tree,),)), told)

    def test_out_everywhere(self):
        for tree in (doubled(OUT, 16), ("rest", 0, (OUT,) * 100000), ("less", 0, (OUT,) * 99999, OUT), apart(10), OUT):
            self.assert_all(True, PROGRAM, LINE, 0, tree)
        for tree in (doubled(OUT, 17), ("rest", 0, (("rest", 0, (OUT,) * 100000), OUT)), doubled(OUT, 61),
                     doubled(IN, 2), ("rest", 0, (OUT,) * 100001), apart(10, False),
                     ("rest", 0, (OUT,) * 500 + (("out", 0),))):
            self.assert_all(False, PROGRAM, LINE, 0, tree)
        self.assert_all(True, PROGRAM, QUARTER, 0, compared(OUT, 16))
        self.assert_all(False, PROGRAM, QUARTER, 0, compared(OUT, 17))

    def test_papers(self):
        paper = ([LINE], ((("ring", (0,), (0, 1)),),), ((doubled(OUT, 16), ("in", 0, (1,), ((1,),))),))
        program = (2, ((1, 1, 0, 1),), ((1, 1),))
        moved = ([LINE], paper[1], ((paper[2][0][1], doubled(OUT, 16)),))
        self.assertIs(is_paper(program, (1, 1, 0), moved), True)
        self.assertIs(is_paper(program, (1, 1, 0), paper), False)
        self.assertIs(is_paper(program, (1, 1, 0), (*moved[:2], ((paper[2][0][1], doubled(OUT, 17)),))), False)

    def test_one_wrong_among_many(self):
        for at in (0, 1, 8):
            for wrong in (("out", 1), ("in", 0, (0,), ((1,),)), ("rest", False, (OUT, OUT)), ("rest", 0, (OUT,)), None):
                self.assert_all(False, PROGRAM, LINE, 0, put_in(doubled(OUT, 16), [1] * at, wrong))
                self.assert_all(False, PROGRAM, LINE, 0, ("rest", 0, (OUT,) * 999 + (wrong,) + (OUT,) * at))

    def test_many_out_beside_others(self):
        stay = ("in", 0, (0,), ())
        self.assert_all(True, TESTED, ALONG, 0, ("less", 0, (stay,) + (OUT,) * 99998, OUT))
        self.assert_all(False, TESTED, ALONG, 0, ("less", 0, (stay,) + (OUT,) * 99999, OUT))
        self.assert_all(False, TESTED, ALONG, 0, ("less", 0, (OUT,) * 99999, OUT))
        self.assert_all(False, TESTED, ALONG, 0, ("less", 0, (stay,) + (OUT,) * 70 + (stay,) + (OUT,) * 70, OUT))
        self.assert_all(False, TESTED, ALONG, 0, ("less", 0, (stay,) + (OUT,) * 70 + (("out", 1),) + (OUT,) * 70, OUT))
        rest = ("less", 0, (stay,), OUT)
        self.assert_all(True, TESTED, ALONG, 0, ("rest", 0, (rest,) + (OUT,) * 99998))
        self.assert_all(False, TESTED, ALONG, 0, ("rest", 0, (rest,) + (OUT,) * 99999))
        self.assert_all(False, TESTED, ALONG, 0, ("rest", 0, (OUT,) * 300 + (rest,)))
        down = (1, ((0, 0, -1, 0),), ())
        tree = ("less", 0, (OUT,), ("in", 0, (0,), ((1,),)))
        self.assert_all(True, down, ALONG, 0, tree)
        self.assert_all(False, down, ALONG, 0, ("less", 0, (OUT,) * 100, tree[3]))
        self.assert_all(False, down, ALONG, 0, ("rest", 0, (OUT,) * 100))
        # What lies behind many that are out may be right, and they are not.
        ahead = tuple([("in", 0, (at - 1,), ()) for at in range(100, 120)])
        self.assert_all(False, down, ALONG, 0, ("less", 0, (OUT,) * 100, ("in", 0, (99,), ((1,),))))
        self.assert_all(False, down, ALONG, 0, ("less", 0, (OUT,) * 100 + ahead, ("in", 0, (119,), ((1,),))))
        self.assert_all(False, down, ALONG, 0, ("less", 0, ahead[:1] + (OUT,) * 99 + ahead, ("in", 0, (119,), ((1,),))))
        self.assert_all(True, down, ALONG, 0, ("less", 0, (OUT,) + tuple([("in", 0, (at,), ()) for at in range(99)]),
                                               ("in", 0, (99,), ((1,),))))

    def test_tests_where_the_first_purse_grows(self):
        self.assert_all(False, TESTED, ALONG, 0, ("in", 0, (0,), ((1,),)))
        self.assert_all(False, TESTED, ALONG, 0, ("rest", 0, (("in", 0, (0,), ((2,),)), OUT)))
        self.assert_all(False, TESTED, ALONG, 0, ("less", 0, (("in", 0, (0,), ()),), ("in", 0, (1,), ((1,),))))
        self.assert_all(False, TESTED, ALONG, 0, ("less", 0, (("in", 0, (0,), ()), ("in", 0, (1,), ())), OUT))
        quarter, up = (0, (0, 0), ((1, 0), (0, 1))), (0, (0, 0), ((0, 1),))
        self.assert_all(False, TESTED, quarter, 0, ("in", 0, (0, 0), ((1, 0), (0, 1))))
        self.assert_all(True, TESTED, quarter, 0, ("less", 0, (("in", 0, (0, 0), ((0, 1),)),), OUT))
        self.assert_all(True, TESTED, up, 0, ("in", 0, (0,), ((1,),)))

    def test_comparisons_near_the_bound(self):
        quarter = (0, (0, 0), ((1, 0), (0, 1)))
        program = (1, ((0, 0, 1, 1),), ())

        def compared_at(at, many):
            low = ("in", 0, (at + 1, 1), ((many, 1), (0, 1)))
            return ("compare", low, ("in", 0, (at + 1 + many, 1), ((many, 0), (many, 1))))
        for many, told in ((30, True), (50000, True), (50001, False)):
            tree = ("rest", 0, tuple([compared_at(at, many) for at in range(many)]))
            self.assert_all(told, program, quarter, 0, tree)
        trees = [compared_at(at, 30) for at in range(30)]
        for at in (0, 17, 29):
            for wrong in (("compare", trees[at][2], trees[at][1]), trees[at][:2], trees[at] + (OUT,), trees[at - 1],
                          OUT):
                self.assert_all(False, program, quarter, 0, ("rest", 0, tuple(trees[:at] + [wrong] + trees[at + 1:])))

    def test_many_right_leaves(self):
        def leaves(many):
            return tuple([("in", 0, (at + 1,), ((many,),)) for at in range(many)])
        self.assert_all(True, STEPPED, ALONG, 0, ("rest", 0, leaves(3000)))
        self.assert_all(False, STEPPED, ALONG, 0, ("rest", 0, leaves(3000)[::-1]))
        for wrong in (("in", 0, (2000,), ((3000,),)), ("in", False, (2001,), ((3000,),)),
                      ("in", 0, (2001,), ((3001,),)), OUT):
            self.assert_all(False, STEPPED, ALONG, 0, ("rest", 0, leaves(3000)[:2000] + (wrong,) + leaves(3000)[2001:]))


class TimeTest(unittest.TestCase):
    """The bound is far above what is asked, so that a busy machine is no matter; a look at each leaf goes beyond it."""

    def assert_soon(self, call):
        times = []
        for _ in range(5):
            begun = time.perf_counter()
            call()
            times.append(time.perf_counter() - begun)
        self.assertLess(min(times), 0.075)

    def test_trees_near_the_bound(self):
        def refused(tree):
            self.assertRaises(BadArgument, leaf_of, tree, (1,))
        full, wide = doubled(OUT, 16), ("rest", 0, (OUT,) * 100000)
        over, too_wide = doubled(OUT, 17), ("rest", 0, (wide, OUT))
        for tree in (full, wide):
            self.assert_soon(lambda: leaf_of(tree, (GREAT,)))
        for tree in (over, too_wide):
            self.assert_soon(lambda: refused(tree))
        for tree in (full, wide, over, too_wide):
            self.assert_soon(lambda: is_tree(PROGRAM, [], LINE, 0, tree))
            self.assert_soon(lambda: is_table(PROGRAM, [LINE], ((tree,),)))
