"""Points 12, 13 and 19: what a start reaches, ways to it, and from where a goal is reached."""

import itertools
import random
import unittest
from unittest import mock

from tests import helper
from twinpurse.errors import BadArgument, BadProgram, BadStanding
from twinpurse.fans import check_lot, has, standing_at
from twinpurse.programs import turned
from twinpurse.reach import reach, sources, way
from twinpurse.roads import is_road, ride, spell
from twinpurse.tables import is_paper

GREAT = 10 ** 30
# Programs on which a search is hard put to it to come to an end, or to come to one soon.
HARD = (
    ((2, ((0, 1, 2, 2), (1, 1, -1, 2), (1, 0, 1, 1), (0, 0, 1, -1)), ((0, 0), (1, 0))), (1, 3, 0)),
    ((2, ((1, 1, 1, 2), (0, 1, -1, 1), (1, 0, -2, 1), (1, 1, 1, 1)), ()), (0, 1, 2)),
    ((2, ((1, 0, 2, 2), (1, 1, 1, 2), (1, 1, 2, -1), (0, 1, -2, 2)), ((1, 1), (0, 0))), (1, 1, 2)),
    ((2, ((1, 0, 1, 2), (0, 1, 0, 1), (1, 1, 1, -2), (1, 1, 2, -2)), ((1, 0),)), (0, 2, 0)),
    ((2, ((1, 0, 2, 2), (0, 1, -1, 2), (0, 0, 2, -2), (0, 1, 2, 2)), ((1, 1), (0, 0))), (0, 4, 1)),
    ((2, ((0, 0, 2, 0), (0, 0, 1, 2), (0, 1, -2, 2), (1, 0, -1, 1)), ((1, 1), (1, 1))), (0, 0, 3)),
    ((2, ((1, 0, 1, 2), (0, 1, 0, 2), (0, 0, 2, -1), (1, 0, -1, 2)), ((0, 1), (0, 0))), (1, 3, 1)),
    ((2, ((0, 1, 2, 2), (1, 0, 2, -2), (0, 1, 2, -1), (1, 0, 1, 2)), ((0, 0), (1, 0))), (1, 4, 1)),
    ((2, ((0, 1, 2, 2), (1, 1, -1, 2), (1, 0, 1, 2), (1, 0, 2, 1)), ((0, 0),)), (0, 2, 1)),
    ((2, ((1, 1, -1, 1), (0, 1, -1, 2), (0, 0, 2, -1), (1, 0, 2, 1)), ((0, 0),)), (0, 4, 4)),
    ((2, ((0, 1, 1, 0), (1, 0, -1, 0), (0, 0, 1, -1), (1, 1, 1, 1)), ((1, 0), (0, 1))), (1, 0, 0)),
    ((1, ((0, 0, 2, -1), (0, 0, 2, 1), (0, 0, -1, 2)), ((0, 0), (0, 0))), (0, 2, 0)),
    ((2, ((1, 0, 2, -2), (1, 0, 2, 2), (1, 1, -1, 2), (0, 1, 2, -1)), ((0, 1), (1, 1))), (1, 1, 0)),
    ((3, ((0, 1, 1, -1), (2, 0, 1, -2), (1, 2, 1, 1), (2, 1, -2, 2)), ((1, 2), (1, 1))), (0, 1, 2)),
    ((3, ((1, 1, 2, -1), (2, 0, -1, 2), (0, 1, -1, 1), (1, 2, -1, 2)), ((0, 0), (0, 1))), (2, 4, 2)),
    ((3, ((0, 1, 1, 2), (1, 2, 2, -2), (1, 0, -2, 2), (2, 0, 2, -1)), ((2, 1), (0, 1))), (2, 1, 4)),
    ((2, ((1, 0, 2, 2), (0, 1, 2, 1), (1, 1, 2, -2), (0, 0, -1, 2)), ((0, 0), (0, 1))), (1, 3, 1)),
    ((2, ((0, 1, 2, 1), (1, 0, 1, 1), (0, 0, 2, -1), (1, 1, -1, 2)), ((0, 0), (1, 0))), (0, 4, 4)),
    ((2, ((1, 1, 1, 2), (0, 1, -2, 2), (0, 0, 2, 2), (1, 0, -2, -1)), ((0, 1), (1, 1))), (1, 0, 3)),
    ((2, ((0, 1, 2, 2), (0, 1, -2, 2), (0, 1, 2, 1), (1, 0, 1, 2)), ()), (1, 4, 0)),
)
NO_STARTS = (None, True, "", [0, 0, 0], (0, 0), (0, 0, 0, 0), (3, 0, 0), (-1, 0, 0), (0, -1, 0), (0, 0, -1),
             (0, True, 0), (0, 0, None), ("0", 0, 0), (True, 0, 0))


class Reach(unittest.TestCase):
    def looked_at(self, program, start, most=40):
        paper = reach(program, start)
        self.assertIs(is_paper(program, start, paper), True, (program, start))
        lot = paper[0]
        found, whole = helper.search_up_to(program, start, most)
        self.assertLessEqual(found, helper.seen(lot, most + 1), (program, start))
        if whole:
            told = {(room, *base) for room, base, rays in lot}
            self.assertEqual((told, any(rays for _, _, rays in lot)), (found, False), (program, start))
        return whole

    def test_nothing_to_do(self):
        for rooms in (1, 2, 3):
            for start in itertools.product(range(rooms), (0, 4), (0, 3)):
                lot, roads, _ = reach((rooms, (), ()), start)
                self.assertEqual((lot, len(roads)), ([(start[0], start[1:], ())], 1))

    def test_plain_programs(self):
        up = (1, ((0, 0, 1, 0),), ())
        self.assertTrue(self.same(reach(up, (0, 2, 1))[0], lambda a, b: a >= 2 and b == 1))
        both = (1, ((0, 0, 1, 0), (0, 0, 0, 2)), ())
        self.assertTrue(self.same(reach(both, (0, 2, 1))[0], lambda a, b: a >= 2 and b % 2 == 1))
        change = (1, ((0, 0, 2, 0), (0, 0, -1, 2)), ())
        self.assertTrue(self.same(reach(change, (0, 1, 0))[0], lambda a, b: b % 2 == 0 and (a + b // 2) % 2 == 1))
        # Twice as much with each round, as the test shows that all was put over.
        double = (2, ((0, 0, -1, 2), (1, 1, 1, -1)), ((0, 1), (1, 1)))
        self.assertTrue(has(reach(double, (0, 3, 0))[0], (1, 6, 0)))
        self.assertFalse(has(reach(double, (0, 3, 0))[0], (1, 7, 0)))

    def same(self, lot, wanted):
        return all(has(lot, (0, a, b)) == wanted(a, b) for a in range(25) for b in range(25))

    def test_drawn_programs(self):
        wholes = [self.looked_at(*case) for case in helper.drawn_cases(12, 1500)]
        self.assertGreater(sum(wholes), 300)
        self.assertLess(sum(wholes), 1300)

    def test_hard_programs(self):
        for case in HARD:
            self.looked_at(*case)

    def test_all_small_programs(self):
        steps = [(0, 0, a, b) for a in range(-2, 3) for b in range(-2, 3)]
        rng = random.Random(13)
        for many in (1, 2):
            for chosen in itertools.combinations(steps, many):
                for tests in ((), ((0, 0),)):
                    program = (1, chosen, tests)
                    start = (0, rng.randint(0, 4), rng.randint(0, 4))
                    self.looked_at(program, start, 25)

    def test_all_starts(self):
        for program in (helper.COUNTER, helper.PAIR, helper.TRIANGLE, helper.STEPS_ALONE, helper.TESTS_ALONE):
            for start in itertools.product(range(program[0]), range(5), range(5)):
                self.looked_at(program, start, 20)

    def test_bounded_programs_with_many_standings(self):
        chain = (3, ((0, 0, -1, 2), (1, 1, 2, -1), (2, 2, -1, 2), (1, 2, 0, 0)), ((0, 1),))
        self.assertTrue(self.looked_at(chain, (0, 4, 4), 200))

    def test_however_little_is_tried_for_small_papers(self):
        cases = [*HARD[:6], *helper.drawn_cases(21, 60)]
        for attempts in (((1, 20000),), ((50, 3), (1, 1000)), ((50, 3), (1, 20000), (1, 80000))):
            with mock.patch("twinpurse.reach.ATTEMPTS", attempts):
                for program, start in cases:
                    self.assertIs(is_paper(program, start, reach(program, start)), True, (attempts, program, start))

    def test_what_was_returned_can_be_changed(self):
        for program, start in HARD[:4]:
            first = reach(program, start)
            first[0].append(None)
            first[0][0] = None
            second = reach(program, start)
            self.assertIs(is_paper(program, start, second), True)
            self.assertIsNot(first[0], second[0])
            told = sources(program, start)
            told.clear()
            again = sources(program, start)
            self.assertTrue(has(again, start))

    def test_what_is_returned(self):
        for program, start in helper.drawn_cases(14, 50):
            paper = reach(program, start)
            lot, roads, table = paper
            self.assertEqual((type(paper), type(lot), type(roads), type(table)), (tuple, list, tuple, tuple))
            self.assertIsNone(check_lot(lot))
            self.assertEqual((len(roads), len(table)), (len(lot), len(lot)))

    def test_errors_in_their_order(self):
        for program in helper.NO_PROGRAMS:
            self.assertRaises(BadProgram, reach, program, (0, 9, 9))
        for start in NO_STARTS:
            self.assertRaises(BadStanding, reach, helper.PAIR if start != (3, 0, 0) else helper.TRIANGLE, start)
        for start in ((0, 5, 0), (0, 0, 5), (1, 5, 5), (0, GREAT, 0)):
            self.assertRaises(BadArgument, reach, helper.PAIR, start)
        self.assertTrue(has(reach(helper.PAIR, (0, 4, 4))[0], (0, 4, 4)))


class Way(unittest.TestCase):
    def test_to_standings_of_the_lot(self):
        for program, start in helper.drawn_cases(15, 150):
            for fan in reach(program, start)[0][:6]:
                for counts in [(0,) * len(fan[2]), (2, 1)[:len(fan[2])]]:
                    standing = standing_at(fan, counts)
                    road = way(program, start, standing)
                    self.assertTrue(is_road(program, start, (standing[0], standing[1:], ()), road))
                    self.assertEqual(helper.slow_play(program, start, spell(road, ())), standing)

    def test_great_counts(self):
        great = 0
        for program, start in (*HARD[:6], *helper.drawn_cases(16, 60)):
            for fan in reach(program, start)[0][:4]:
                standing = standing_at(fan, (GREAT, 3 * GREAT + 1)[:len(fan[2])])
                road = way(program, start, standing)
                self.assertTrue(is_road(program, start, (standing[0], standing[1:], ()), road))
                self.assertEqual(ride(program, start, road, ()), standing)
                great += max(standing) >= GREAT
        self.assertGreater(great, 30)

    def test_to_standings_beside_the_lot(self):
        beside = 0
        for program, start in helper.drawn_cases(17, 60):
            lot = reach(program, start)[0]
            for standing in itertools.product(range(program[0]), (0, 1, 3, GREAT), (0, 2, 5, GREAT + 1)):
                road = way(program, start, standing)
                self.assertEqual(road is not None, has(lot, standing))
                if road is None:
                    beside += 1
                else:
                    self.assertTrue(is_road(program, start, (standing[0], standing[1:], ()), road))
        self.assertGreater(beside, 200)

    def test_to_the_start(self):
        for program, start in helper.drawn_cases(18, 30):
            self.assertTrue(is_road(program, start, (start[0], start[1:], ()), way(program, start, start)))
        self.assertEqual(spell(way((2, (), ()), (1, 3, 4), (1, 3, 4)), ()), ())

    def test_errors_in_their_order(self):
        for program in helper.NO_PROGRAMS:
            self.assertRaises(BadProgram, way, program, None, None)
        for wrong in NO_STARTS:
            program = helper.PAIR if wrong != (3, 0, 0) else helper.TRIANGLE
            self.assertRaises(BadStanding, way, program, wrong, (0, 0, 0))
            self.assertRaises(BadStanding, way, program, (0, 0, 0), wrong)
            # The standing is looked at ahead of how much is in the start.
            self.assertRaises(BadStanding, way, program, (0, 5, 0), wrong)
        self.assertRaises(BadArgument, way, helper.PAIR, (0, 5, 0), (0, 5, 0))
        self.assertRaises(BadArgument, way, helper.PAIR, (0, 0, 5), (0, 0, 0))
        self.assertIsNone(way(helper.EMPTY, (0, 0, 0), (0, 0, GREAT)))


class Sources(unittest.TestCase):
    def test_against_reach(self):
        for program, goal in [(helper.COUNTER, (0, 0, 0)), *helper.drawn_cases(19, 25)]:
            lot = sources(program, goal)
            self.assertIsNone(check_lot(lot))
            for start in itertools.product(range(program[0]), range(5), range(5)):
                self.assertEqual(has(lot, start), has(reach(program, start)[0], goal), (program, start, goal))

    def test_against_the_turned_program(self):
        for program, goal in helper.drawn_cases(20, 60):
            lot = sources(program, goal)
            back = turned(program)
            for standing in itertools.product(range(program[0]), (0, 3, 7), (0, 2, 9)):
                self.assertEqual(has(lot, standing), way(back, goal, standing) is not None)

    def test_plainly(self):
        program = (2, ((0, 0, -1, 0), (0, 1, 0, 1)), ((0, 1),))
        lot = sources(program, (1, 0, 2))
        for room, a, b in itertools.product((0, 1), range(8), range(8)):
            wanted = b in (1, 2) if room == 0 else (a, b) == (0, 2)
            self.assertEqual(has(lot, (room, a, b)), wanted, (room, a, b))

    def test_errors_in_their_order(self):
        for program in helper.NO_PROGRAMS:
            self.assertRaises(BadProgram, sources, program, None)
        for wrong in NO_STARTS:
            self.assertRaises(BadStanding, sources, helper.PAIR if wrong != (3, 0, 0) else helper.TRIANGLE, wrong)
        for goal in ((0, 5, 0), (0, 0, 5), (1, GREAT, GREAT)):
            self.assertRaises(BadArgument, sources, helper.PAIR, goal)
        self.assertTrue(has(sources(helper.PAIR, (1, 4, 4)), (1, 4, 4)))


if __name__ == "__main__":
    unittest.main()
