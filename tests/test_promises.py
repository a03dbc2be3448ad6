"""Point 19: what is promised over the whole program, with all modules together."""

import itertools
import random
import unittest

from tests import helper
from tests.test_reach import HARD
from twinpurse.desk import Desk
from twinpurse.facts import differ, endless, greatest, home, is_lasso, stuck
from twinpurse.fans import has
from twinpurse.programs import turned
from twinpurse.reach import reach, sources, way
from twinpurse.roads import ride
from twinpurse.runs import able, play
from twinpurse.tables import is_paper
from twinpurse.texts import (
    format_lot, format_program, format_question, format_standing, parse_lot, parse_program, parse_question,
    parse_standing,
)


def cases(seed, many):
    rng = random.Random(seed)
    for _ in range(many):
        program = helper.slow_program(rng) if rng.random() < 0.4 else helper.drawn_program(rng)
        yield program, helper.drawn_start(rng, program)


def renamed(rng, program, start):
    """The program with the rooms numbered in another order, and its steps and tests in another order."""
    rooms, steps, tests = program
    names = rng.sample(range(rooms), rooms)
    steps = [(names[source], names[target], first, second) for source, target, first, second in steps]
    tests = [(names[source], names[target]) for source, target in tests]
    rng.shuffle(steps)
    rng.shuffle(tests)
    return names, (rooms, tuple(steps), tuple(tests)), (names[start[0]], *start[1:])


class Promises(unittest.TestCase):
    def test_what_is_reached(self):
        for program, start in cases(1, 120):
            paper = reach(program, start)
            self.assertIs(is_paper(program, start, paper), True)
            found, whole = helper.search_up_to(program, start, 30)
            told = {standing for standing in helper.seen(paper[0], 31) if standing[1] + standing[2] <= 30}
            self.assertLessEqual(found, told)
            if whole:
                self.assertEqual(found, told)
            for standing in itertools.islice(sorted(told), 0, None, 7):
                road = way(program, start, standing)
                self.assertEqual(ride(program, start, road, ()), standing)
            for a, b in itertools.product((0, 3, 10 ** 30), repeat=2):
                standing = (start[0], a, b)
                self.assertEqual(way(program, start, standing) is not None, has(paper[0], standing))

    def test_turned_round(self):
        for program, start in cases(2, 120):
            lot = reach(program, start)[0]
            for standing in itertools.product(range(program[0]), range(0, 5, 2), range(0, 5, 2)):
                back = reach(turned(program), standing)[0]
                self.assertEqual(has(lot, standing), has(back, start), (program, start, standing))
                self.assertEqual(has(sources(program, standing), start), has(lot, standing))

    def test_no_run_goes_on_where_no_lasso_is_told(self):
        ends = 0
        for program, start in cases(3, 300):
            lasso = endless(program, start)
            if lasso is None:
                ends += 1
                found, whole = helper.search_up_to(program, start, 60)
                self.assertTrue(whole)
                self.assertFalse(helper.has_cycle(program, found), (program, start))
            else:
                self.assertIs(is_lasso(program, start, lasso), True)
                road, standing, loop = lasso
                for _ in range(5):
                    self.assertTrue(has(reach(program, start)[0], standing))
                    standing = ride(program, standing, loop, ())
        self.assertGreater(ends, 40)

    def test_stuck_ones_are_stuck(self):
        for program, start in cases(4, 150):
            told = stuck(program, start)
            if told is not None:
                self.assertEqual(able(program, told), [])
                self.assertEqual(ride(program, start, way(program, start, told), ()), told)
            else:
                at = start
                for _ in range(30):
                    at = play(program, at, (able(program, at)[-1],))

    def test_the_same_facts_told_otherwise(self):
        rng = random.Random(5)
        for program, start in [*cases(5, 150), *HARD[:6]]:
            names, other, other_start = renamed(rng, program, start)
            self.assertEqual(greatest(program, start), greatest(other, other_start))
            self.assertEqual(endless(program, start) is None, endless(other, other_start) is None)
            for called in (stuck, home):
                one, two = called(program, start), called(other, other_start)
                # Among standings with equal purses the lesser room decides, which may be another one.
                self.assertEqual(one and one[1:], two and two[1:], (program, start))
            back = [names.index(room) for room in range(program[0])]
            same = (
                program[0], tuple((back[a], back[b], c, d) for a, b, c, d in other[1]),
                tuple((back[a], back[b]) for a, b in other[2]),
            )
            self.assertIsNone(differ(program, start, same, start))
            self.assertEqual((stuck(program, start), home(program, start)), (stuck(same, start), home(same, start)))

    def test_home_is_where_all_come_back(self):
        for program, start in cases(6, 150):
            counter = home(program, start)
            if counter is not None:
                self.assertTrue(has(reach(program, start)[0], counter))
                self.assertFalse(has(sources(program, start), counter))
            else:
                for standing in helper.seen(reach(program, start)[0], 5):
                    self.assertTrue(has(reach(program, standing)[0], start))


class AtTheDesk(unittest.TestCase):
    def test_questions_and_their_nots(self):
        rng = random.Random(7)
        for program, start in [*cases(7, 120), *HARD[:5]]:
            desk = Desk()
            desk.do("program " + format_program(program))
            desk.do("start " + format_standing(start))
            number, lot = desk.do("number"), reach(program, start)[0]
            for _ in range(8):
                question = helper.drawn_question(rng, rng.randint(1, 4), rng.choice((5, 99)), 2)
                yes, no = format_question(question), format_question(("not", question))
                self.look_at_counts(desk.do("count " + yes), desk.do("count " + no), number)
                for text, other in ((yes, no), (no, yes)):
                    least = desk.do("least " + text)
                    self.assertEqual(desk.do("every " + other), "yes" if least == "none" else least)
                    self.assertEqual(desk.do("count " + text) == "0", least == "none")
                    if least != "none":
                        self.assertEqual(desk.do("has " + least), "yes")
                        self.assertTrue(has(lot, parse_standing(least)))

    def look_at_counts(self, yes, no, number):
        if number == "endless":
            self.assertTrue("endless" in (yes, no))
        else:
            self.assertEqual(int(yes) + int(no), int(number))

    def test_counts_of_parts(self):
        # What is in a room, and what leaves a remainder, is counted once each.
        for program, start in cases(8, 100):
            desk = Desk()
            desk.do("program " + format_program(program))
            desk.do("start " + format_standing(start))
            for bound in ("most 0 0 0", "most 1 1 20", "most 3 -2 11"):
                whole = desk.do("count " + bound)
                for parts in ([f"room {room}" for room in range(3)], [f"rest 1 -2 5 {left}" for left in range(5)]):
                    told = [desk.do(f"count and {part} {bound}") for part in parts]
                    if "endless" in told:
                        self.assertEqual(whole, "endless")
                    else:
                        self.assertEqual(whole, str(sum(map(int, told))))


class Texts(unittest.TestCase):
    def test_what_is_told_is_read_back(self):
        for program, start in [*cases(9, 150), *HARD[:6]]:
            lot = reach(program, start)[0]
            self.assertEqual(parse_program(format_program(program)), program)
            self.assertEqual(parse_standing(format_standing(start)), start)
            self.assertEqual(parse_lot(format_lot(lot)), lot)
            question = ("or", ("room", start[0]), ("most", 1, -1, start[1]))
            self.assertEqual(parse_question(format_question(question)), question)
