"""Point 14: lots held against each other."""

import copy
import itertools
import math
import random
import unittest

from tests.helper import seen
from tests.test_fans import NO_FANS
from twinpurse.errors import BadArgument, BadFan, TooLarge
from twinpurse.fans import check_lot
from twinpurse.lots import alike, lack, least, number, share, union, within, without

GREAT = 10 ** 30
SEEN = 36
PAIRS = list(itertools.product(range(5), repeat=2))[1:]


def grain(fan):
    rays = fan[2]
    if len(rays) == 2:
        return abs(rays[0][0] * rays[1][1] - rays[0][1] * rays[1][0])
    return math.gcd(*rays[0]) if rays else 1


def common_grain(lots):
    return math.lcm(*(grain(fan) for lot in lots for fan in lot))


def drawn_fan(rng, grains, rooms=2):
    while True:
        rays = tuple(rng.choice(PAIRS) for _ in range(rng.choice((0, 1, 1, 2, 2, 2))))
        fan = (rng.randrange(rooms), (rng.randint(0, 12), rng.randint(0, 12)), rays)
        if len(rays) < 2 or rays[0][0] * rays[1][1] != rays[0][1] * rays[1][0]:
            if grain(fan) in grains:
                return fan


def drawn_lots(seed, many):
    """Draw pairs of lots; some fans overlap, and some stand in both lots or twice in one."""
    rng = random.Random(seed)
    for _ in range(many):
        grains = rng.choice(((1,), (1, 2), (1, 3), (1, 2, 3, 6), (6,), (1, 4), (1, 5)))
        lot, other = ([drawn_fan(rng, grains) for _ in range(rng.randint(0, 4))] for _ in range(2))
        if lot and rng.random() < 0.3:
            other = (other + [rng.choice(lot)])[-4:]
        if lot and rng.random() < 0.2:
            lot = (lot + [lot[0]])[-4:]
        yield lot, other


def order(standing):
    room, a, b = standing
    return (a + b, a, room)


def first_of(standings):
    """Return the least of these, or None if there is none so small that all lesser ones were seen."""
    small = [standing for standing in standings if standing[1] + standing[2] < SEEN]
    return min(small, key=order, default=None)


class AgainstALook(unittest.TestCase):
    def test_drawn_lots(self):
        for lot, other in drawn_lots(1, 250):
            kept = copy.deepcopy((lot, other))
            here, there = seen(lot, SEEN), seen(other, SEEN)
            for told, wanted in (
                (union(lot, other), here | there), (share(lot, other), here & there),
                (without(lot, other), here - there), (without(other, lot), there - here),
            ):
                self.assertIsNone(check_lot(told))
                self.assertEqual(seen(told, SEEN), wanted, (lot, other))
            self.compared_least(lot, other, here, there)
            self.assertEqual((lot, other), kept)

    def compared_least(self, lot, other, here, there):
        self.assertEqual(least(lot), min(here, key=order, default=None))
        for told, wanted in ((within(lot, other), here - there), (within(other, lot), there - here),
                             (alike(lot, other), here ^ there), (alike(other, lot), here ^ there)):
            if told is None or sum(told[1:]) < SEEN:
                self.assertEqual(told, first_of(wanted), (lot, other))
            else:
                self.assertIsNone(first_of(wanted))
        if within(lot, other) is None:
            self.assertEqual(without(lot, other), [])
        self.assertEqual(alike(lot, other) is None, within(lot, other) is None and within(other, lot) is None)
        self.assertIsNone(alike(lot, list(lot)))
        self.assertIsNone(within(lot, lot))

    def test_lack(self):
        for lot, _ in drawn_lots(2, 60):
            here = seen(lot, SEEN)
            for rooms in (1, 2, 3):
                told = lack(lot, rooms)
                everything = set(itertools.product(range(rooms), range(SEEN), range(SEEN)))
                self.assertEqual(seen(told, SEEN), everything - here, (lot, rooms))
        self.assertEqual(seen(lack([], 3), SEEN), set(itertools.product(range(3), range(SEEN), range(SEEN))))
        self.assertEqual(lack([(0, (0, 0), ((1, 0), (0, 1)))], 1), [])

    def test_lots_that_fill_each_other_up(self):
        quarter = [(0, (0, 0), ((1, 0), (0, 1)))]
        halves = [(0, (0, 0), ((1, 1), (0, 1))), (0, (1, 0), ((1, 0), (1, 1)))]
        thirds = [(0, (at, 0), ((3, 0), (0, 1))) for at in range(3)]
        sixths = [(0, (at, 0), ((2, 0), (0, 3))) for at in range(2)]
        strip = [(0, (0, 2), ((1, 0), (0, 1))), (0, (0, 0), ((1, 0),)), (0, (0, 1), ((1, 0),))]
        for lot in (halves, thirds, strip):
            self.assertIsNone(alike(quarter, lot))
            self.assertIsNone(alike(lot, quarter))
            self.assertEqual(lack(lot, 1), [])
        self.assertEqual(alike(quarter, thirds[1:]), (0, 0, 0))
        self.assertEqual(alike(quarter, thirds[:2]), (0, 2, 0))
        self.assertEqual(alike(quarter, halves[:1]), (0, 1, 0))
        self.assertEqual(within(quarter, sixths), (0, 0, 1))
        self.assertIsNone(within(sixths, quarter))
        self.assertEqual(within(quarter, strip[:1] + strip[2:]), (0, 0, 0))

    def test_number(self):
        for lot, expected in (
            ([], 0), ([(0, (3, 4), ())], 1), ([(0, (3, 4), ())] * 4, 1), ([(0, (3, 4), ()), (1, (3, 4), ())], 2),
            ([(0, (0, 0), ()), (0, (0, 1), ()), (0, (1, 0), ()), (2, (0, 0), ())], 4),
            ([(0, (0, 0), ((1, 1),))], None), ([(0, (0, 0), ()), (2, (0, 0), ((0, 1), (1, 0)))], None),
        ):
            self.assertEqual(number(lot), expected)

    def test_least(self):
        self.assertIsNone(least([]))
        self.assertEqual(least([(2, (1, 1), ()), (0, (2, 0), ()), (1, (1, 1), ())]), (1, 1, 1))
        self.assertEqual(least([(0, (2, 0), ()), (2, (0, 2), ((1, 0),)), (1, (1, 1), ())]), (2, 0, 2))
        self.assertEqual(least([(0, (1, 2), ()), (2, (2, 0), ())]), (2, 2, 0))
        self.assertEqual(alike([(0, (2, 0), ()), (1, (1, 1), ())], [(0, (1, 1), ())]), (0, 1, 1))

    def test_what_is_returned_is_new(self):
        lot = [(0, (0, 0), ((1, 0), (0, 1))), (1, (2, 2), ())]
        other = [(1, (3, 3), ())]
        for called, arguments in (
            (union, (lot, other)), (union, (lot, [])), (union, ([], lot)), (share, (lot, lot)), (share, (lot, other)),
            (without, (lot, other)), (without, (lot, [])), (lack, (lot, 2)), (lack, ([], 1)),
        ):
            kept = copy.deepcopy(arguments)
            first = called(*arguments)
            wanted = list(first)
            first.append(None)
            first[0] = None
            self.assertEqual(arguments, kept, called)
            self.assertEqual(called(*arguments), wanted)
            self.assertIsNone(check_lot(wanted))


def wholly():
    """Calls with a lot, or two of them, of every function of the module."""
    for called in (union, share, without, within, alike):
        yield lambda lot, called=called: called(lot, [])
        yield lambda lot, called=called: called([], lot)
        yield lambda lot, called=called: called(lot, lot)
    for called in (least, number):
        yield called
    yield lambda lot: lack(lot, 1)


FAN = (0, (12, 12), ((4, 3), (1, 0)))
FITS = (
    [], [FAN] * 4, [(2, (12, 0), ()), (1, (0, 12), ())], [(0, (0, 0), ((4, 4),))], [(0, (0, 0), ((2, 0), (1, 3)))],
    [(0, (0, 0), ((2, 2),)), (1, (0, 0), ((3, 3),))], [(0, (0, 0), ((0, 3),)), (1, (0, 0), ((4, 2), (1, 1)))],
    [(0, (0, 0), ((4, 1), (3, 2)))], [(0, (0, 0), ((3, 2), (2, 3)))],
    [(0, (0, 0), ((0, 4),))], [(0, (0, 0), ((4, 3),)), (0, (0, 0), ((3, 4),))],
)
BEYOND = (
    [FAN] * 5, [(0, (0, 0), ())] * 5, [(0, (13, 0), ())], [(0, (0, 13), ())], [(0, (0, GREAT), ())],
    [(0, (0, 0), ((5, 1),))], [(0, (0, 0), ((1, 5),))], [(0, (0, 0), ((1, 0), (4, 5)))], [(0, (0, 0), ((5, 0),))],
    [(0, (0, 0), ((4, 1), (1, 2)))], [(0, (0, 0), ((4, 3), (3, 4)))], [(0, (0, 0), ((4, 0), (0, 2)))],
    [(0, (0, 0), ((4, 4),)), (1, (0, 0), ((3, 3),))], [(0, (0, 0), ((4, 4),)), (1, (0, 0), ((3, 0), (0, 2)))],
    [(0, (0, 0), ((4, 1), (3, 2))), (0, (0, 0), ((2, 2),))], [(0, (0, 0), ((GREAT, 1),))],
    [FAN, FAN, FAN, (2, (0, 13), ())],
)


class Bounds(unittest.TestCase):
    def test_just_reached(self):
        for lot in FITS:
            for called in wholly():
                called(lot)

    def test_passed_by_one(self):
        for lot in BEYOND:
            for called in wholly():
                self.assertRaises(TooLarge, called, lot)

    def test_of_both_lots_together(self):
        twos, threes, fours = [(0, (0, 0), ((2, 2),))], [(1, (0, 0), ((3, 0),))], [(2, (0, 0), ((2, 0), (0, 2)))]
        fives = [(0, (1, 1), ((4, 1), (3, 2)))]
        for called in (union, share, without, within, alike):
            for lot, other in ((twos, threes), (threes, twos), (twos, fours), (fours, fours), (fives, fives)):
                called(lot, other)
                called(other, lot)
            for lot, other in ((threes, fours), (fives, twos), (fives, threes), (fours, fives)):
                self.assertRaises(TooLarge, called, lot, other)
                self.assertRaises(TooLarge, called, other, lot)
            # Four fans each; not four of both lots.
            called([FAN] * 4, [FAN] * 4)
            self.assertRaises(TooLarge, called, [FAN] * 5, [FAN] * 4)
            self.assertRaises(TooLarge, called, [], [FAN] * 5)

    def test_exactly(self):
        rng = random.Random(14)
        large = 0
        for _ in range(600):
            lots = [[drawn_fan(rng, range(1, 17), 3) for _ in range(rng.randint(0, 2))] for _ in range(2)]
            if common_grain(lots) > 6:
                large += 1
                self.assertRaises(TooLarge, within, *lots)
                self.assertRaises(TooLarge, share, *lots)
            else:
                union(*lots)
                within(*lots)
        self.assertGreater(large, 100)
        self.assertLess(large, 550)

    def test_wrong_fans_come_first(self):
        for wrong in NO_FANS:
            for lot in ([wrong], [FAN, wrong], [wrong] * 5, [(0, (13, 0), ()), wrong]):
                for called in wholly():
                    self.assertRaises(BadFan, called, lot)
            self.assertRaises(BadFan, lack, [wrong], 0)
        for wrong in (None, (), (FAN,), "", 0, True, {}, FAN, set()):
            for called in wholly():
                self.assertRaises(BadFan, called, wrong)
            self.assertRaises(BadFan, union, BEYOND[0], wrong)

    def test_rooms_of_lack(self):
        for rooms in (0, 4, -1, True, False, None, "1", (1,), GREAT):
            for lot in ([], [FAN], BEYOND[0], BEYOND[-2]):
                self.assertRaises(BadArgument, lack, lot, rooms)
        for rooms in (1, 2, 3):
            self.assertRaises(TooLarge, lack, BEYOND[0], rooms)

    def test_returned_lots_may_be_larger(self):
        lot = [(0, (at, 12), ()) for at in range(4)]
        other = [(0, (at, 11), ()) for at in range(4)]
        self.assertEqual(seen(union(lot, other), SEEN), seen(lot, SEEN) | seen(other, SEEN))
        self.assertEqual(len(seen(union(lot, other), SEEN)), 8)


class Sizes(unittest.TestCase):
    def test_many_calls(self):
        for lot, other in drawn_lots(3, 400):
            without(lot, other)
            alike(lot, other)


if __name__ == "__main__":
    unittest.main()
