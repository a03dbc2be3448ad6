"""Point 16: what is so of all that is reached, and lassos."""

import copy
import itertools
import random
import unittest

from tests import helper
from tests.test_reach import HARD, NO_STARTS
from twinpurse.errors import BadArgument, BadProgram, BadStanding
from twinpurse.facts import differ, endless, greatest, home, is_lasso, stuck
from twinpurse.fans import has
from twinpurse.gaps import least_outside
from twinpurse.programs import turned
from twinpurse.reach import reach, sources, way
from twinpurse.roads import is_road, ride, spell
from twinpurse.runs import play

GREAT = 10 ** 30
SEEN = 45
# It goes round with 2 more in the second purse, and out of there with a test.
LOOPS = (2, ((0, 0, 1, 0), (0, 0, -1, 2), (0, 1, 0, -1), (1, 1, 0, 0)), ((0, 0), (1, 0)))


def least_of(standings):
    return min(standings, key=helper.order, default=None)


class Facts(unittest.TestCase):
    def assert_lasso(self, program, start, lasso):
        """Look at a lasso without is_lasso."""
        road, standing, loop = lasso
        self.assertIs(is_road(program, start, (standing[0], standing[1:], ()), road), True, (program, start, lasso))
        self.assertEqual(ride(program, start, road, ()), standing)
        word = spell(loop, ())
        self.assertTrue(word)
        at = standing
        for _ in range(3):
            led = play(program, at, word)
            self.assertIsNotNone(led, (program, start, lasso))
            self.assertEqual(led[0], at[0])
            self.assertGreaterEqual(led[1], at[1])
            self.assertGreaterEqual(led[2], at[2])
            if any(move >= len(program[1]) for move in word):
                self.assertEqual(led[1], at[1])
            at = led
        self.assertIs(is_lasso(program, start, lasso), True)

    def look_at_all(self, program, start, found):
        """Compare with a search that has found all standings."""
        told = (program, start)
        stuck_ones = [standing for standing in found if not helper.led_to(program, standing)]
        self.assertEqual(stuck(*told), least_of(stuck_ones), told)
        most = tuple(max(standing[purse] for standing in found) for purse in (1, 2))
        self.assertEqual(greatest(*told), most, told)
        self.assertEqual(home(*told), least_of(found - helper.reaching(program, found, start)), told)
        lasso = endless(*told)
        self.assertEqual(lasso is not None, helper.has_cycle(program, found), told)
        if lasso is not None:
            self.assert_lasso(program, start, lasso)

    def look_at_some(self, program, start):
        """Compare with what is seen of the lot, where there are endlessly many standings."""
        told = (program, start)
        lot = reach(*told)[0]
        seen = {standing for standing in helper.seen(lot, SEEN) if standing[1] + standing[2] < SEEN}
        self.assert_least(stuck(*told), [standing for standing in seen if not helper.led_to(program, standing)], told)
        back = helper.seen(sources(*told), SEEN)
        self.assert_least(home(*told), seen - back, told)
        counter = home(*told)
        if counter is not None:
            self.assertTrue(has(lot, counter))
            self.assertIsNone(way(turned(program), start, counter))
        for purse, most in enumerate(greatest(*told)):
            self.assertEqual(most is None, any(ray[purse] for _, _, rays in lot for ray in rays), told)
            if most is not None:
                self.assertEqual(most, max(base[purse] for _, base, _ in lot), told)
        self.assert_lasso(program, start, endless(*told))

    def assert_least(self, told, wanted, case):
        least = least_of(wanted)
        if least is None:
            self.assertTrue(told is None or told[1] + told[2] >= SEEN, case)
        else:
            self.assertEqual(told, least, case)

    def look_at(self, program, start):
        found, whole = helper.search_up_to(program, start, 40)
        if whole:
            self.look_at_all(program, start, found)
        else:
            self.look_at_some(program, start)
        return whole

    def test_drawn_programs(self):
        rng = random.Random(1)
        wholes = 0
        for _ in range(500):
            program = helper.slow_program(rng)
            wholes += self.look_at(program, helper.drawn_start(rng, program))
        self.assertGreater(wholes, 250)

    def test_drawn_programs_with_many_standings(self):
        for program, start in helper.drawn_cases(2, 250):
            self.look_at(program, start)

    def test_small_programs(self):
        rng = random.Random(3)
        steps = [(0, 0, a, b) for a in range(-2, 3) for b in range(-2, 3)]
        for chosen in [(), *itertools.combinations(steps, 1), *rng.sample(list(itertools.combinations(steps, 2)), 60)]:
            for tests in ((), ((0, 0),)):
                self.look_at((1, tuple(chosen), tests), (0, rng.randint(0, 4), rng.randint(0, 4)))

    def test_nothing_to_do(self):
        for rooms in (1, 2, 3):
            for start in itertools.product(range(rooms), (0, 4), (0, 3)):
                program = (rooms, (), ())
                self.assertEqual(stuck(program, start), start)
                self.assertEqual(greatest(program, start), start[1:])
                self.assertIsNone(home(program, start))
                self.assertIsNone(endless(program, start))
                self.assertIsNone(differ(program, start, (3, (), ((0, 0),)), start) if start[1] else None)

    def test_programs_of_the_document(self):
        for program in helper.PROGRAMS:
            for start in itertools.product(range(program[0]), range(5), range(5)):
                self.look_at(program, start)

    def test_many_fans(self):
        for program, start in HARD[:12]:
            self.look_at(program, start)

    def test_the_least_by_its_order(self):
        # Of the standings with the same sum, the one with less in the first purse, and then with the lesser room.
        change = (3, ((0, 0, -1, 1), (0, 1, 0, 0), (0, 2, 0, 0)), ())
        self.assertEqual(stuck(change, (0, 3, 1)), (1, 0, 4))
        self.assertEqual(home(change, (0, 3, 1)), (0, 0, 4))
        self.assertEqual(stuck((3, change[1][1:], ()), (0, 3, 1)), (1, 3, 1))
        self.assertEqual(home((3, ((0, 2, 0, 0), (0, 1, 0, 0)), ()), (0, 3, 1)), (1, 3, 1))
        self.assertEqual(differ((3, ((2, 1, 0, 0), (2, 0, 0, 0)), ()), (2, 0, 0), (3, (), ()), (2, 0, 0)), (0, 0, 0))
        self.assertEqual(differ(change, (0, 3, 1), change, (0, 2, 2)), (0, 3, 1))

    def test_two_sided_ends(self):
        # All runs end, but the last move of each is a test.
        program = (3, ((0, 0, -1, 2), (1, 1, 1, -1)), ((0, 1), (1, 2)))
        self.assertTrue(self.look_at(program, (0, 3, 1)))
        self.assertIsNone(endless(program, (0, 3, 1)))
        self.assertEqual(greatest(program, (0, 3, 1)), (7, 7))


class Differ(unittest.TestCase):
    def compare(self, case, other):
        told = differ(*case, *other)
        self.assertEqual(differ(*other, *case), told)
        (found, whole), (others, other_whole) = [helper.search_up_to(*one, 40) for one in (case, other)]
        if whole and other_whole:
            self.assertEqual(told, least_of(found ^ others), (case, other))
            return told
        lots = reach(*case)[0], reach(*other)[0]
        apart = helper.seen(lots[0], SEEN) ^ helper.seen(lots[1], SEEN)
        least = least_of([standing for standing in apart if standing[1] + standing[2] < SEEN])
        if told is None or told[1] + told[2] >= SEEN:
            self.assertIsNone(least, (case, other))
        else:
            self.assertEqual(told, least, (case, other))
        return told

    def test_drawn_pairs(self):
        rng = random.Random(4)
        drawn = []
        for _ in range(120):
            program = helper.slow_program(rng) if rng.random() < 0.6 else helper.drawn_program(rng)
            drawn.append((program, helper.drawn_start(rng, program)))
        for case, other in zip(drawn, drawn[1:]):
            self.compare(case, other)

    def test_near_ones(self):
        rng = random.Random(5)
        same = 0
        for program, start in helper.drawn_cases(6, 150):
            rooms, steps, tests = program
            other_start = (start[0], min(4, start[1] + rng.randint(0, 1)), start[2])
            others = (rooms, steps, tests[:1]), (rooms, steps[1:], tests), (rooms, steps[::-1], tests[::-1])
            other = rng.choice(others)
            same += self.compare((program, start), (other, rng.choice((start, other_start)))) is None
        self.assertGreater(same, 20)

    def test_the_same_told_otherwise(self):
        for (rooms, steps, tests), start in HARD[:12]:
            other = (rooms, steps[::-1], tests + tests[:1] if len(tests) == 1 else tests[::-1])
            self.assertIsNone(differ((rooms, steps, tests), start, other, start))

    def test_fans_with_other_grains(self):
        # All that the first one reaches, in fans of grain 40, lies in many fans of grains from 36 to 77.
        one = (2, ((0, 1, 2, 2), (1, 1, -1, 2), (1, 0, 1, 2), (1, 0, 2, 1)), ((0, 0),)), (0, 3, 3)
        other = (2, ((0, 1, 2, 2), (1, 1, -1, 2), (1, 0, 2, 1), (0, 0, 1, -1)), ((0, 0), (1, 0))), (1, 3, 0)
        self.assertEqual(self.compare(one, other), (1, 3, 0))
        lots = reach(*one)[0], reach(*other)[0]
        self.assertIsNone(least_outside(*lots))
        self.assertEqual(least_outside(*lots[::-1]), (1, 3, 0))

    def test_rooms_that_are_not_reached(self):
        self.assertIsNone(differ((1, ((0, 0, 1, 2),), ()), (0, 1, 1), (3, ((0, 0, 1, 2), (1, 2, 1, 1)), ()), (0, 1, 1)))
        self.assertEqual(differ((1, (), ()), (0, 1, 1), (3, (), ()), (2, 0, 1)), (2, 0, 1))

    def test_errors_in_order(self):
        good, start = helper.PAIR, (0, 1, 1)
        for wrong in helper.NO_PROGRAMS:
            for one, other in ((wrong, good), (good, wrong), (wrong, wrong)):
                for at in (start, None, (0, 5, 0)):
                    self.assertRaises(BadProgram, differ, one, at, other, at)
        for wrong in NO_STARTS:
            for at in (start, (0, 5, 0)):
                self.assertRaises(BadStanding, differ, good, wrong, good, at)
                self.assertRaises(BadStanding, differ, good, at, good, wrong)
        self.assertRaises(BadStanding, differ, (1, (), ()), (1, 0, 0), good, start)
        self.assertRaises(BadStanding, differ, good, start, (1, (), ()), (1, 0, 0))
        for much in ((0, 5, 0), (0, 0, 5), (1, GREAT, GREAT)):
            self.assertRaises(BadArgument, differ, good, much, good, start)
            self.assertRaises(BadArgument, differ, good, start, good, much)
        self.assertIsNone(differ(good, (0, 4, 4), good, (0, 4, 4)))


class Errors(unittest.TestCase):
    def test_errors_in_order(self):
        for called in (stuck, greatest, home, endless):
            for wrong in helper.NO_PROGRAMS:
                self.assertRaises(BadProgram, called, wrong, (0, 0, 0))
                self.assertRaises(BadProgram, called, wrong, None)
            for wrong in NO_STARTS:
                self.assertRaises(BadStanding, called, helper.PAIR, wrong)
            self.assertRaises(BadStanding, called, helper.PAIR, (2, 5, 5))
            for much in ((0, 5, 0), (0, 0, 5), (1, GREAT, 0)):
                self.assertRaises(BadArgument, called, helper.PAIR, much)
            called(helper.PAIR, (1, 4, 4))

    def test_nothing_is_changed(self):
        for program, start in [*HARD[:3], *helper.drawn_cases(7, 20)]:
            kept = copy.deepcopy((program, start))
            for called in (stuck, greatest, home, endless):
                self.assertEqual(called(program, start), called(program, start))
            self.assertEqual((program, start), kept)


class Lasso(unittest.TestCase):
    START = (0, 1, 1)
    RIGHT = (
        ((), (0, 1, 1), (("walk", (0,)),)),
        ((), (0, 1, 1), (("ring", (0,), (GREAT,)),)),
        ((), (0, 1, 1), (("ring", (0,), (2,)), ("ring", (1,), (2,)))),
        ((), (0, 1, 1), (("ring", (1,), (1,)), ("walk", (0,)))),
        ((("ring", (0,), (GREAT,)),), (0, GREAT + 1, 1), (("walk", (1, 0)),)),
        ((("walk", (1,)),), (0, 0, 3), (("walk", (4,)),)),
        ((("walk", (1,)),), (0, 0, 3), (("ring", (4, 0, 1), (GREAT,)),)),
        ((("walk", (1, 2)),), (1, 0, 2), (("walk", (3,)),)),
        ((("walk", (1, 2)),), (1, 0, 2), (("walk", (5, 0, 0, 1, 1)), ("ring", (1,), (0,)), ("walk", (2,)))),
        ((("walk", (1,)), ("ring", (2, 5), (0,))), (0, 0, 3), (("ring", (3,), (0,)), ("walk", (0,)), ("walk", ()))),
    )

    def test_right_ones(self):
        for lasso in self.RIGHT:
            self.assertIs(is_lasso(LOOPS, self.START, lasso), True, lasso)

    def assert_no(self, lasso, start=START, program=LOOPS):
        self.assertIs(is_lasso(program, start, lasso), False, lasso)

    def test_changed_at_one_place(self):
        for road, standing, loop in self.RIGHT:
            room, a, b = standing
            self.assert_no(((("walk", (0,)),) + road, standing, loop))
            self.assert_no((road + (("walk", (0,)),), standing, loop))
            self.assert_no((road + (("ring", (0,), (1,)),), standing, loop))
            for wrong in ((1 - room, a, b), (2, a, b), (room, a + 1, b), (room, a, b + 1), (room, a, b - 1),
                          (room, a - 1, b)):
                self.assert_no((road, wrong, loop))
            for wrong in ((), (("walk", ()),), (("ring", (0,), (0,)),), loop + (("walk", (2,)),), (("walk",
                          (2,)),) + loop,
                          (("walk", (6,)),), (("walk", (0, 3)),), loop + (("ring", (0, 2), (1,)),), list(loop), None,
                          loop + (("ring", (), (1,)),), loop[0], "", ((),), loop + (("walk", [0]),),
                          loop + (("walk", (True,)),)):
                self.assert_no((road, standing, wrong))
            for path in helper.places(loop, tuple):
                part = helper.part_at(loop, path)
                if path and path[-1] == 2:
                    for wrong in ((), part + (0,), (0,) + part, part * 3, (-1,), (True,), (None,), list(part), 1):
                        self.assert_no((road, standing, helper.put(loop, path, wrong)))

    def test_less_behind_the_loop(self):
        for loop in (("walk", (1,)), ("ring", (1,), (1,)), ("walk", (0, 1, 1)), ("ring", (2, 5), (1,)), ("walk", (2,))):
            self.assert_no(((), (0, 1, 1), (loop,)))
        down = (1, ((0, 0, 2, -1), (0, 0, -1, 2)), ())
        self.assertIs(is_lasso(down, (0, 1, 3), ((), (0, 1, 3), (("walk", (0, 1)),))), True)
        self.assert_no(((), (0, 1, 3), (("walk", (0,)),)), (0, 1, 3), down)
        self.assert_no(((), (0, 1, 3), (("ring", (0,), (3,)), ("ring", (1,), (1,)))), (0, 1, 3), down)
        self.assertIs(is_lasso(down, (0, 1, 3), ((), (0, 1, 3), (("ring", (0,), (3,)), ("ring", (1,), (2,))))), True)
        self.assert_no(((), (0, 1, 3), (("ring", (0,), (4,)), ("ring", (1,), (3,)))), (0, 1, 3), down)

    def test_a_test_and_more_in_the_first_purse(self):
        start = (0, 0, 0)
        self.assertIs(is_lasso(LOOPS, start, ((), start, (("walk", (4, 0, 1)),))), True)
        self.assert_no(((), start, (("walk", (4, 0)),)), start)
        self.assertIs(is_lasso(LOOPS, start, ((), start, (("walk", (0,)), ("ring", (4,), (0,))))), True)
        self.assert_no(((), start, (("ring", (4,), (1,)), ("walk", (0,)))), start)
        self.assert_no(((), start, (("walk", (0,)), ("ring", (4,), (1,)))), start)

    def test_other_forms(self):
        right = self.RIGHT[4]
        # The word 1 0 stays right with another 0, or with 0 alone.
        still = [right[:2] + ((("walk", word),),) for word in ((0,), (1, 0, 0), (0, 1, 0))]
        for path in helper.places(right, tuple):
            self.assert_no(helper.put(right, path, list(helper.part_at(right, path))))
            for wrong in helper.spoilt_length(right, path, 0):
                self.assertIs(is_lasso(LOOPS, self.START, wrong), wrong in still, wrong)
        for wrong in (None, True, 0, "", "lasso", [], (), {}, right[:2], right + (0,), list(right), (right,),
                      (None,) * 3):
            self.assert_no(wrong)
        for at in range(3):
            for wrong in (None, True, 0, "", "walk", [], {}, ((),), (0,), (None,)):
                self.assert_no(right[:at] + (wrong,) + right[at + 1:])

    def test_kinds(self):
        for right in self.RIGHT:
            for wrong in helper.spoilt_kinds(right):
                self.assertIs(is_lasso(LOOPS, self.START, wrong), False, wrong)

    def test_starts_of_any_size(self):
        for a, b in ((5, 0), (GREAT, 0), (GREAT, GREAT), (0, 10 ** 400)):
            start = (0, a, b)
            self.assertIs(is_lasso(LOOPS, start, ((), start, (("ring", (0,), (GREAT,)),))), True)
            far = (0, 0, b + 2 * a)
            self.assertIs(is_lasso(LOOPS, start, ((("ring", (1,), (a,)),), far, (("walk", (4,)),))), True)
            self.assert_no(((("ring", (1,), (a + 1,)),), far, (("walk", (4,)),)), start)
            self.assert_no(((), start, (("ring", (2, 5), (1,)),)), start)

    def test_errors_in_order(self):
        for wrong in helper.NO_PROGRAMS:
            self.assertRaises(BadProgram, is_lasso, wrong, None, None)
        for wrong in NO_STARTS:
            if wrong != (3, 0, 0):
                self.assertRaises(BadStanding, is_lasso, LOOPS, wrong, self.RIGHT[0])
        self.assertRaises(BadStanding, is_lasso, LOOPS, (2, 0, 0), None)
