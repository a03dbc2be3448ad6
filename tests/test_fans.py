"""Point 5: fans, counts and lots."""

import copy
import itertools
import unittest

from tests import helper
from twinpurse.errors import BadArgument, BadFan, BadStanding
from twinpurse.fans import check_fan, check_lot, counts_of, has, standing_at

GREAT = 10 ** 30
POINT = (0, (3, 5), ())
LINE = (1, (1, 0), ((2, 3),))
UPWARD = (2, (0, 4), ((0, 2),))
ASIDE = (0, (7, 7), ((3, 0),))
CONE = (2, (1, 2), ((2, 1), (1, 3)))
CROSSED = (0, (0, 0), ((1, 3), (2, 1)))
AXES = (1, (0, 0), ((0, 4), (6, 0)))
WIDE = (1, (GREAT, 0), ((GREAT + 1, GREAT), (GREAT, GREAT - 1)))
FANS = (POINT, LINE, UPWARD, ASIDE, CONE, CROSSED, AXES, WIDE)
# Each of these is spoilt in one way only.
NO_FANS = (
    (-1, (0, 0), ()), (3, (0, 0), ()), (GREAT, (0, 0), ()),
    (0, (-1, 0), ()), (0, (0, -1), ()), (0, (-GREAT, 0), ()),
    (0, (0, 0), ((-1, 1),)), (0, (0, 0), ((1, -1),)), (0, (0, 0), ((1, 0), (-1, 1))), (0, (0, 0), ((1, 0), (1, -1))),
    (0, (0, 0), ((0, 0),)), (0, (0, 0), ((0, 0), (1, 1))), (0, (0, 0), ((1, 1), (0, 0))),
    (0, (0, 0), ((1, 2), (1, 2))), (0, (0, 0), ((1, 2), (2, 4))), (0, (0, 0), ((0, 1), (0, 3))),
    (0, (0, 0), ((5, 0), (2, 0))), (0, (0, 0), ((GREAT, 2 * GREAT), (3, 6))),
    (0, (0, 0), ((1, 0), (0, 1), (1, 1))), (0, (0, 0), ((1, 0),) * 3),
    (), (0,), (0, (0, 0)), (0, (0, 0), (), ()), ((0, 0), ()), (0, 0, 0), (0, 0, 0, ()),
    [0, (0, 0), ()], (0, [0, 0], ()), (0, (0, 0), []), (0, (0, 0), [(1, 1)]), (0, (0, 0), ([1, 1],)),
    (True, (0, 0), ()), (0, (False, 0), ()), (0, (0, True), ()), (0, (0, 0), ((True, 0),)), (0, (0, 0), ((1, False),)),
    None, True, 0, "", "0 0 0", {}, (None, (0, 0), ()), ("0", (0, 0), ()), (0, None, ()), (0, (0, 0), None),
    (0, (0, 0), (None,)), (0, (0, 0), ("12",)), (0, "00", ()), (0, (0, 0), ""), (0, (0, 0), (1, 2)),
)
NO_STANDINGS = (
    None, True, "", "0 0 0", [0, 0, 0], {}, (), (0, 0), (0, 0, 0, 0), (-1, 0, 0), (3, 0, 0), (GREAT, 0, 0),
    (0, -1, 0), (0, 0, -1), (0, True, 0), (0, 0, None), ("0", 0, 0), (False, 0, 0), (0, (0, 0), ()),
)


def slow_standings(fan, most):
    """Return a dict of standings of the fan to their counts, for counts up to a bound."""
    room, base, rays = fan
    found = {}
    for counts in itertools.product(range(most + 1), repeat=len(rays)):
        first = base[0] + sum(count * ray[0] for count, ray in zip(counts, rays))
        second = base[1] + sum(count * ray[1] for count, ray in zip(counts, rays))
        found[(room, first, second)] = counts
    return found


class CheckFan(unittest.TestCase):
    def refused(self, fan):
        with self.assertRaises(BadFan, msg=fan):
            check_fan(fan)
        with self.assertRaises(BadFan, msg=fan):
            standing_at(fan, ())
        with self.assertRaises(BadFan, msg=fan):
            counts_of(fan, (0, 0, 0))
        for at in range(3):
            lot = [POINT, CONE]
            lot.insert(at, fan)
            kept = copy.deepcopy(lot)
            with self.assertRaises(BadFan, msg=lot):
                check_lot(lot)
            with self.assertRaises(BadFan, msg=lot):
                # The first fan of the lot has the standing; the whole lot is looked at all the same.
                has(lot, (0, 3, 5))
            self.assertEqual(lot, kept)

    def test_fans_are_taken(self):
        for fan in FANS:
            self.assertIsNone(check_fan(fan))

    def test_every_room(self):
        for room in (0, 1, 2):
            self.assertIsNone(check_fan((room, (0, 0), ())))

    def test_bases_and_rays_of_any_size(self):
        for first, second in itertools.product((0, 1, 12, GREAT, 10 ** 6000), repeat=2):
            self.assertIsNone(check_fan((0, (first, second), ())))
            if (first, second) != (0, 0):
                self.assertIsNone(check_fan((0, (0, 0), ((first, second),))))
                self.assertIsNone(check_fan((0, (0, 0), ((first, second), (first + 1, second + 2 * first + 1)))))

    def test_all_small_pairs_of_rays(self):
        pairs = list(itertools.product(range(4), repeat=2))
        for ray, other in itertools.product(pairs, repeat=2):
            fan = (0, (1, 1), (ray, other))
            on_one_line = ray[0] * other[1] == ray[1] * other[0]
            if on_one_line:
                self.refused(fan)
            else:
                self.assertIsNone(check_fan(fan))

    def test_one_thing_spoilt(self):
        for fan in NO_FANS:
            self.refused(fan)

    def test_other_kinds_at_each_place(self):
        for fan in FANS:
            for spoilt in helper.spoilt_kinds(fan):
                self.refused(spoilt)

    def test_parts_too_many_or_too_few(self):
        for path in ((), (1,), (2, 0), (2, 1)):
            for more in (0, 1, (), (1, 1)):
                for spoilt in helper.spoilt_length(CONE, path, more):
                    self.refused(spoilt)


class CheckLot(unittest.TestCase):
    def test_lots_are_taken(self):
        for lot in ([], [POINT], [CONE, CONE], list(FANS), list(FANS) * 50):
            kept = list(lot)
            self.assertIsNone(check_lot(lot))
            self.assertEqual(lot, kept)

    def test_what_is_no_list(self):
        for lot in ((), (POINT,), None, True, False, 0, "", "none", {}, {0: POINT}, set(), POINT):
            with self.assertRaises(BadFan, msg=lot):
                check_lot(lot)
            with self.assertRaises(BadFan, msg=lot):
                has(lot, (0, 0, 0))
            with self.assertRaises(BadFan, msg=lot):
                has(lot, None)


class Counts(unittest.TestCase):
    def test_chosen_standings(self):
        self.assertEqual(standing_at(POINT, ()), (0, 3, 5))
        self.assertEqual(standing_at(LINE, (0,)), (1, 1, 0))
        self.assertEqual(standing_at(LINE, (4,)), (1, 9, 12))
        self.assertEqual(standing_at(CONE, (0, 0)), (2, 1, 2))
        self.assertEqual(standing_at(CONE, (5, 1)), (2, 12, 10))
        self.assertEqual(standing_at(CONE, (GREAT, 2)), (2, 2 * GREAT + 3, GREAT + 8))
        self.assertEqual(counts_of(CONE, (2, 12, 10)), (5, 1))
        self.assertEqual(counts_of(CROSSED, (0, 11, 8)), (1, 5))

    def test_there_and_back(self):
        numbers = (0, 1, 2, 7, GREAT, GREAT + 1, 10 ** 6000)
        for fan in FANS:
            for counts in itertools.product(numbers, repeat=len(fan[2])):
                standing = standing_at(fan, counts)
                self.assertIs(type(standing), tuple)
                self.assertEqual(counts_of(fan, standing), counts)
                self.assertIs(type(counts_of(fan, standing)), tuple)

    def test_all_standings_near_by(self):
        for fan in FANS[:-1]:
            found = slow_standings(fan, 40)
            for standing in itertools.product(range(3), range(31), range(31)):
                self.assertEqual(counts_of(fan, standing), found.get(standing), (fan, standing))
                self.assertIs(has([fan], standing), standing in found)

    def test_all_small_fans(self):
        rays = [ray for ray in itertools.product(range(3), repeat=2) if ray != (0, 0)]
        for base in ((0, 0), (1, 2)):
            for many in ((), *[(ray,) for ray in rays], *itertools.permutations(rays, 2)):
                fan = (1, base, many)
                if len(many) == 2 and many[0][0] * many[1][1] == many[0][1] * many[1][0]:
                    continue
                found = slow_standings(fan, 16)
                for first, second in itertools.product(range(8), repeat=2):
                    self.assertEqual(counts_of(fan, (1, first, second)), found.get((1, first, second)), fan)
                for counts in itertools.product(range(4), repeat=len(many)):
                    self.assertEqual(found[standing_at(fan, counts)], counts)

    def test_standings_beside_great_fans(self):
        # With these rays (1, 0) is 1 - GREAT and GREAT of them, and (0, 1) is GREAT and -1 - GREAT.
        for x, y in ((0, 0), (1, 0), (3, 4), (GREAT, GREAT), (GREAT - 2, GREAT), (GREAT - 1, GREAT + 1)):
            room, first, second = standing_at(WIDE, (x, y))
            self.assertEqual(counts_of(WIDE, (room, first, second)), (x, y))
            self.assertIsNone(counts_of(WIDE, (room + 1, first, second)))
            right = (x + 1 - GREAT, y + GREAT) if x + 1 >= GREAT else None
            self.assertEqual(counts_of(WIDE, (room, first + 1, second)), right)
            above = (x + GREAT, y - 1 - GREAT) if y > GREAT else None
            self.assertEqual(counts_of(WIDE, (room, first, second + 1)), above)
        great = (0, (GREAT, GREAT), ((GREAT, 0), (0, GREAT)))
        self.assertEqual(counts_of(great, (0, GREAT, 3 * GREAT)), (0, 2))
        for first, second in ((0, 0), (GREAT - 1, GREAT), (2 * GREAT - 1, GREAT), (GREAT, GREAT + 1), (0, GREAT)):
            self.assertIsNone(counts_of(great, (0, first, second)))

    def test_what_are_no_counts(self):
        for fan in FANS:
            many = len(fan[2])
            wrong = [(0,) * other for other in range(5) if other != many]
            wrong += [[0] * many, None, "", "0" * many, 0, True, {}]
            for at in range(many):
                wrong += [helper.put((1,) * many, (at,), worse) for worse in (-1, -GREAT) + helper.NOT_INTEGERS]
            for counts in wrong:
                with self.assertRaises(BadArgument, msg=(fan, counts)):
                    standing_at(fan, counts)

    def test_what_is_no_standing(self):
        for standing in NO_STANDINGS:
            for fan in FANS:
                with self.assertRaises(BadStanding, msg=standing):
                    counts_of(fan, standing)
            for lot in ([], [POINT], list(FANS)):
                with self.assertRaises(BadStanding, msg=standing):
                    has(lot, standing)

    def test_fans_come_first(self):
        for fan in NO_FANS:
            with self.assertRaises(BadFan):
                standing_at(fan, None)
            for standing in NO_STANDINGS:
                with self.assertRaises(BadFan):
                    counts_of(fan, standing)
                with self.assertRaises(BadFan):
                    has([POINT, fan], standing)


class Has(unittest.TestCase):
    def test_the_empty_lot(self):
        for standing in ((0, 0, 0), (2, 5, GREAT)):
            self.assertIs(has([], standing), False)

    def test_some_fan_is_enough(self):
        lot = [POINT, LINE, CONE]
        kept = copy.deepcopy(lot)
        for standing in ((0, 3, 5), (1, 3, 3), (2, 12, 10)):
            for order in itertools.permutations(lot):
                self.assertIs(has(list(order), standing), True)
        for standing in ((1, 3, 5), (0, 3, 3), (2, 2, 2), (0, 0, 0)):
            self.assertIs(has(lot, standing), False)
        self.assertEqual(lot, kept)

    def test_great_numbers(self):
        self.assertIs(has([POINT, LINE], (1, 2 * GREAT + 1, 3 * GREAT)), True)
        self.assertIs(has([POINT, LINE], (1, 2 * GREAT + 2, 3 * GREAT)), False)
        self.assertIs(has(list(FANS), standing_at(WIDE, (GREAT, 5))), True)


if __name__ == "__main__":
    unittest.main()
