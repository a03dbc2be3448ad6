"""Point 18: the desk."""

import random
import unittest

from tests import helper
from tests.test_reach import HARD
from twinpurse.desk import Desk
from twinpurse.errors import BadLine
from twinpurse.facts import endless, greatest, home, stuck
from twinpurse.fans import has
from twinpurse.reach import reach
from twinpurse.runs import able, play
from twinpurse.texts import format_program, format_question, format_standing, parse_question, parse_standing

PROGRAM = "program rooms 2; 0>1 1 -2; 1>0 0 2; test 1>1"
FINITE = "program rooms 2; 0>0 -1 1; 0>1 0 -1; test 1>0"
ASKED = ("number", "count room 0", "has 0 1 1", "least room 0", "every room 0", "stuck", "home", "greatest", "endless",
         "play 0", "play -")
NO_LINES = (
    "", " ", "program", "program ", "Program rooms 1", "program rooms 4", "program rooms 1 ", " program rooms 1",
    "program  rooms 1", "program rooms 1; 0>0 3 0", "programs rooms 1", "program none", "program\trooms 1",
    "start", "start ", "start 0", "start 0 0", "start 0 0 0 0", "start 2 0 0", "start -1 0 0", "start 0 -1 0",
    "start 0 5 0", "start 0 0 5", "start 0 4 10", "start 0 00 0", "start 0 +1 0", "start  0 0 0", "start 0  0 0",
    "start 0 0 0 ", " start 0 0 0", "start 0 0 0\n", "start 0 0 \u0661", "Start 0 0 0", "start 0 0 x",
    "start (0, 0, 0)",
    "able", "able ", "able 0", "able 0 0", "able 2 0 0", "able 0 -1 0", "able 0 0 0 0", "able 0 0 0 ", "able  0 0 0",
    "able 0 0 -0", "able none", "able 0 0 " + "1" * 61,
    "play", "play ", "play 4", "play -1", "play 0 4", "play 1 1 9", "play 0  1", "play 0 ", " play 0", "play  0",
    "play - 0", "play 0 -", "play --", "play -0", "play 00", "play 0,1", "play x", "play None", "plays 0", "play\n0",
    "number ", "number 0", " number", "numbers", "Number", "number\n", "number number", "stuck 0 0 0", "stuck ",
    "home ", "home 0", "greatest ", "greatest 0", "endless ", "endless 1", "go", "ok", "none", "-", "0",
    "count", "count ", "count room", "count room 3", "count room 1 ", "count  room 1", "count room 1 1", "count not",
    "count room 01", "count " + "not " * 7 + "room 1", "count and room 1", "count most 1 1 100", "count rest 1 1 7 0",
    "least", "least ", "least room 3", "least  room 0", "least none", "every", "every ", "every room -1",
    "every room 0 ",
    "has", "has ", "has 0", "has 0 0", "has 2 0 0", "has 0 -1 0", "has 0 0 0 0", "has 0 0 0 ", "has  0 0 0",
    "has 0 0 01",
    "reach", "lot", "paper", "quit", "all room 0", "counts room 0", "Count room 0", "leas room 0", "Every room 0",
    "stuck room 0",
    "number room 0", "answers room 0", "has room 0", "play room 0", "Has 0 0 0", "Able 0 0 0", "Play 0", "Play -",
)


def started(program, start):
    desk = Desk()
    desk.do("program " + format_program(program))
    desk.do("start " + format_standing(start))
    return desk


class Lines(unittest.TestCase):
    def assert_bad(self, desk, line):
        with self.assertRaises(BadLine, msg=repr(line)):
            desk.do(line)

    def test_ahead_of_a_program(self):
        desk = Desk()
        for line in (*ASKED, "start 0 1 1", "able 0 1 1", *NO_LINES):
            self.assert_bad(desk, line)
        self.assertEqual(desk.do(PROGRAM), "ok")

    def test_ahead_of_a_start(self):
        desk = Desk()
        desk.do(PROGRAM)
        for line in (*ASKED, *NO_LINES):
            self.assert_bad(desk, line)
        self.assertEqual(desk.do("able 0 0 2"), "0")
        self.assertEqual(desk.do("start 0 4 4"), "ok")

    def test_answers(self):
        desk = Desk()
        self.assertEqual(desk.do(FINITE), "ok")
        self.assertEqual(desk.do("start 0 2 0"), "ok")
        # 0 2 0, 0 1 1, 0 0 2, 1 1 0, 1 0 1, 0 0 1, 1 0 0, 0 0 0
        for line, answer in (
            ("number", "8"), ("count room 0", "5"), ("count not room 0", "3"), ("count most 0 0 -1", "0"),
            ("count and room 1 rest 1 0 2 1", "1"), ("has 1 1 0", "yes"), ("has 1 1 1", "no"), ("has 0 2 0", "yes"),
            ("least room 1", "1 0 0"), ("least not most 1 0 1", "0 2 0"), ("least most -1 0 -3", "none"),
            ("every most 1 1 2", "yes"), ("every room 0", "1 0 0"), ("every most 1 1 1", "0 0 2"),
            ("stuck", "0 0 0"), ("home", "0 0 0"), ("greatest", "2 2"), ("endless", "no"), ("play -", "0 2 0"),
            ("play 0 1", "1 1 0"), ("play 0 0 1 2", "0 0 1"), ("play 1", "no"), ("play 2", "no"), ("play 0 1 2", "no"),
            ("able 0 2 1", "0 1"), ("able 1 0 0", "2"), ("able 1 1 0", "none"), ("able 0 0 0", "none"),
        ):
            self.assertEqual(desk.do(line), answer, line)

    def test_endlessly_many(self):
        desk = Desk()
        desk.do("program rooms 2; 0>0 1 0; 0>1 -2 1; 1>1 0 -1")
        desk.do("start 0 0 0")
        for line, answer in (
            ("number", "endless"), ("count room 0", "endless"), ("count most 1 0 2", "9"), ("count most 0 0 -1", "0"),
            ("count and room 1 most 1 0 99", "200"), ("least most -1 0 -99", "0 99 0"), ("least rest 1 1 6 5", "1 4 1"),
            ("least not most 0 1 0", "1 0 1"), ("least not most 0 1 1", "none"),
            ("every most 0 1 1", "yes"), ("every most 1 0 99", "0 100 0"), ("greatest", "none 1"), ("stuck", "1 0 0"),
            ("home", "1 0 0"), ("endless", "yes"), ("has 0 " + "9" * 60 + " 0", "yes"), ("has 0 " + "9" * 60 + " 1",
            "no"),
            ("able 0 " + "9" * 60 + " 0", "0 1"),
        ):
            self.assertEqual(desk.do(line), answer, line)

    def test_a_program_told_anew(self):
        desk = Desk()
        desk.do(PROGRAM)
        desk.do("start 0 4 4")
        before = desk.do("greatest")
        self.assertEqual(desk.do(FINITE), "ok")
        for line in ASKED:
            self.assert_bad(desk, line)
        self.assertEqual(desk.do("able 0 1 1"), "0 1")
        desk.do("start 0 2 0")
        self.assertEqual(desk.do("number"), "8")
        self.assertEqual(desk.do("start 0 1 0"), "ok")
        self.assertEqual(desk.do("number"), "4")
        self.assertEqual(desk.do("play -"), "0 1 0")
        desk.do(PROGRAM)
        self.assert_bad(desk, "number")
        desk.do("start 0 4 4")
        self.assertEqual(desk.do("greatest"), before)

    def test_nothing_changes_with_a_bad_line(self):
        desk = Desk()
        desk.do(FINITE)
        desk.do("start 0 2 0")
        for line in (*NO_LINES, None, True, 0, b"number", ["number"], ("number",)):
            self.assert_bad(desk, line)
            self.assertEqual(desk.do("play -"), "0 2 0")
        self.assertEqual(desk.do("number"), "8")
        self.assertEqual(desk.do("able 0 2 1"), "0 1")

    def test_two_desks(self):
        one, other = Desk(), Desk()
        one.do(FINITE)
        self.assert_bad(other, "able 0 0 0")
        other.do(PROGRAM)
        one.do("start 0 2 0")
        self.assert_bad(other, "number")
        other.do("start 1 0 1")
        for _ in range(2):
            self.assertEqual((one.do("number"), other.do("number")), ("8", "endless"))
            self.assertEqual((one.do("play -"), other.do("play -")), ("0 2 0", "1 0 1"))

    def test_a_move_that_is_none_behind_one_that_cannot_be_made(self):
        desk = Desk()
        desk.do(FINITE)
        desk.do("start 0 0 0")
        self.assertEqual(desk.do("play 1 1"), "no")
        self.assert_bad(desk, "play 1 1 3")
        self.assert_bad(desk, "play 3 1 1")
        self.assertEqual(desk.do("play " + "0 " * 5000 + "0"), "no")
        desk.do("program rooms 1")
        desk.do("start 0 4 4")
        self.assert_bad(desk, "play 0")
        self.assertEqual(desk.do("play -"), "0 4 4")


class AgainstTheFunctions(unittest.TestCase):
    def test_drawn_programs(self):
        rng = random.Random(1)
        for _ in range(150):
            program = helper.slow_program(rng) if rng.random() < 0.5 else helper.drawn_program(rng)
            start = helper.drawn_start(rng, program)
            self.look_at(program, start, rng)

    def test_many_fans(self):
        rng = random.Random(2)
        for program, start in HARD[:8]:
            self.look_at(program, start, rng)

    def test_very_many_fans(self):
        # Here reach tells more than a thousand fans; some of the questions are so of no standing at all.
        program, start = HARD[15]
        desk, seen = started(program, start), helper.seen(reach(program, start)[0], 130)
        for text, none in (
            ("and most 1 1 99 rest 1 1 3 1", False), ("and most 1 -1 -9 most -1 1 8", True),
            ("and not most 1 -1 5 and rest 1 0 6 5 or rest -1 0 3 0 most 4 -1 10", True),
            ("and and rest 3 1 6 2 not rest 1 1 4 1 and not most -4 5 -23 rest 1 -1 6 3", True),
            ("and most 2 -1 3 and most -3 4 11 room 1", False),
            ("and rest 1 0 4 2 and rest 0 1 5 1 most 2 1 60", False),
        ):
            question = parse_question(text)
            yes = [standing for standing in seen if helper.slow_holds(question, standing)]
            self.assertEqual(bool(yes), not none)
            least = min(yes, key=helper.order, default=None)
            self.assertEqual(desk.do("count " + text), str(len(yes)), text)
            self.assertEqual(desk.do("least " + text), "none" if none else format_standing(least))
            self.assertEqual(desk.do("every not " + text), "yes" if none else format_standing(least))
        self.assertEqual(desk.do("count not most 1 1 99"), "endless")

    def look_at(self, program, start, rng):
        desk, lot = started(program, start), reach(program, start)[0]
        for line, told, other in (
            ("stuck", stuck(program, start), "none"), ("home", home(program, start), "yes"),
        ):
            self.assertEqual(desk.do(line), other if told is None else format_standing(told))
        most = ["none" if number is None else str(number) for number in greatest(program, start)]
        self.assertEqual(desk.do("greatest"), " ".join(most))
        self.assertEqual(desk.do("endless"), "no" if endless(program, start) is None else "yes")
        for _ in range(12):
            standing = (rng.randrange(program[0]), rng.randint(0, 9), rng.randint(0, 9))
            text = format_standing(standing)
            self.assertEqual(desk.do("has " + text), "yes" if has(lot, standing) else "no")
            moves = able(program, standing)
            self.assertEqual(desk.do("able " + text), " ".join(map(str, moves)) if moves else "none")
        self.look_at_words(desk, program, start, rng)
        self.look_at_questions(desk, program, start, lot, rng)

    def look_at_words(self, desk, program, start, rng):
        many = len(program[1]) + len(program[2])
        word, at = (), start
        for _ in range(12 if many else 0):
            moves = able(program, at)
            word += (rng.choice(moves) if moves and rng.random() < 0.9 else rng.randrange(many),)
            told = play(program, start, word)
            answer = "no" if told is None else format_standing(told)
            self.assertEqual(desk.do("play " + " ".join(map(str, word))), answer)
            at = told or at

    def look_at_questions(self, desk, program, start, lot, rng):
        most = 60
        found, whole = helper.search_up_to(program, start, most)
        seen = found if whole else {one for one in helper.seen(lot, most) if one[1] + one[2] < most}
        for _ in range(6):
            question = helper.drawn_question(rng, rng.randint(1, 4), rng.choice((5, 99)))
            text = format_question(question)
            yes = {standing for standing in seen if helper.slow_holds(question, standing)}
            number = desk.do("count " + text)
            if whole:
                self.assertEqual(number, str(len(yes)))
            elif number != "endless":
                self.assertGreaterEqual(int(number), len(yes))
            for line, wanted, none in (("least ", yes, "none"), ("every ", seen - yes, "yes")):
                answer = desk.do(line + text)
                least = min(wanted, key=helper.order, default=None)
                if least is not None:
                    self.assertEqual(answer, format_standing(least), (program, start, text))
                elif answer != none:
                    told = parse_standing(answer)
                    self.assertTrue(has(lot, told) and told[1] + told[2] >= most)
                    self.assertIs(helper.slow_holds(question, told), line == "least ")
