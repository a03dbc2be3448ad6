"""Point 17: textual forms, and what is read back."""

import copy
import itertools
import random
import unittest

from tests import helper
from tests.test_fans import NO_FANS
from tests.test_questions import AT_BOUNDS, BEYOND, NO_QUESTIONS, joined, nested
from tests.test_reach import NO_STARTS
from twinpurse.errors import BadArgument, BadFan, BadProgram, BadStanding, BadText
from twinpurse.texts import (
    format_lot, format_program, format_question, format_standing, parse_lot, parse_program, parse_question,
    parse_standing,
)

GREATEST = 10 ** 60 - 1
PROGRAMS = (
    ("rooms 1", (1, (), ())),
    ("rooms 3", (3, (), ())),
    ("rooms 2; 0>1 1 -2; 1>0 0 2; test 1>1", (2, ((0, 1, 1, -2), (1, 0, 0, 2)), ((1, 1),))),
    ("rooms 3; test 0>2; test 2>1", (3, (), ((0, 2), (2, 1)))),
    ("rooms 1; 0>0 -2 -2; 0>0 2 2; 0>0 0 0; 0>0 -1 1", (1, ((0, 0, -2, -2), (0, 0, 2, 2), (0, 0, 0, 0), (0, 0, -1,
    1)), ())),
    ("rooms 1; 0>0 1 0; test 0>0; test 0>0", (1, ((0, 0, 1, 0),), ((0, 0), (0, 0)))),
)
STANDINGS = (("0 0 0", (0, 0, 0)), ("2 10 0", (2, 10, 0)), (f"1 {GREATEST} {GREATEST - 1}", (1, GREATEST,
             GREATEST - 1)))
LOTS = (
    ("none", []),
    ("0 3 0; 1 2; 0 4 | 1 0 0", [(0, (3, 0), ((1, 2), (0, 4))), (1, (0, 0), ())]),
    ("2 0 7; 3 0", [(2, (0, 7), ((3, 0),))]),
    ("0 0 0 | 0 0 0 | 0 0 0; 0 1", [(0, (0, 0), ()), (0, (0, 0), ()), (0, (0, 0), ((0, 1),))]),
    (f"0 {GREATEST} 0; {GREATEST} 1; 1 {GREATEST}", [(0, (GREATEST, 0), ((GREATEST, 1), (1, GREATEST)))]),
)
QUESTIONS = (
    ("room 0", ("room", 0)),
    ("most -6 6 -99", ("most", -6, 6, -99)),
    ("rest 1 -2 6 5", ("rest", 1, -2, 6, 5)),
    ("and room 1 not most 1 -2 7", ("and", ("room", 1), ("not", ("most", 1, -2, 7)))),
    ("or and room 1 room 2 not not rest 0 0 2 0",
     ("or", ("and", ("room", 1), ("room", 2)), ("not", ("not", ("rest", 0, 0, 2, 0))))),
)
ALL = (
    (format_program, parse_program, PROGRAMS), (format_standing, parse_standing, STANDINGS),
    (format_lot, parse_lot, LOTS), (format_question, parse_question, QUESTIONS),
)
SIGNS = "0123456789 -+>;|_.,abenorstm\n\t\u0662\u00b2\uff11\u2212\u00a0"


def changed(text):
    """Yield the text with one sign left out, put in, replaced or exchanged, or a word left out, twice or exchanged."""
    for at in range(len(text) + 1):
        yield text[:at] + text[at + 1:]
        yield text[:at] + text[at:at + 1] + text[at:]
        for sign in SIGNS:
            yield text[:at] + sign + text[at:]
            yield text[:at] + sign + text[at + 1:]
    words = text.split(" ")
    for at in range(len(words)):
        yield " ".join(words[:at] + words[at + 1:])
        yield " ".join(words[:at] + words[at:at + 1] + words[at:])
        for other in range(at):
            yield " ".join(words[:other] + [words[at]] + words[other + 1:at] + [words[other]] + words[at + 1:])
    yield text.upper()
    yield text + text
    yield "\ufeff" + text


class BackAndForth(unittest.TestCase):
    def test_what_is_told(self):
        for formed, parse, pairs in ALL:
            for text, value in pairs:
                kept = copy.deepcopy(value)
                self.assertEqual(formed(value), text)
                self.assertEqual(parse(text), value)
                self.assertEqual(value, kept)

    def test_a_new_list_each_time(self):
        first, second = parse_lot("none"), parse_lot("none")
        self.assertIsNot(first, second)
        first.append(None)
        self.assertEqual(parse_lot("none"), [])

    def test_drawn_programs(self):
        for program, start in helper.drawn_cases(1, 400):
            self.assertEqual(parse_program(format_program(program)), program)
            self.assertEqual(parse_standing(format_standing(start)), start)

    def test_all_steps_and_tests(self):
        for step in itertools.product(range(3), range(3), range(-2, 3), range(-2, 3)):
            text = "rooms 3; {}>{} {} {}; test {}>{}".format(*step, *step[:2])
            self.assertEqual(parse_program(text), (3, (step,), (step[:2],)))
            self.assertEqual(format_program((3, (step,), (step[:2],))), text)

    def test_drawn_questions(self):
        rng = random.Random(2)
        for _ in range(1000):
            question = helper.drawn_question(rng, rng.randint(1, 4), 99)
            self.assertEqual(parse_question(format_question(question)), question)
        for question in (*AT_BOUNDS, nested(6), joined("or", [("rest", -6, -6, 6, 5)] * 4)):
            self.assertEqual(parse_question(format_question(question)), question)

    def test_drawn_lots(self):
        rng = random.Random(3)
        for _ in range(300):
            most = rng.choice((3, 12, GREATEST))
            lot = []
            while len(lot) < 4 and rng.random() < 0.9:
                rays = [(rng.randint(0, most), rng.randint(1, most)), (rng.randint(1, most), 0)][:rng.randint(0, 2)]
                lot.append((rng.randrange(3), (rng.randint(0, most), rng.randint(0, most)), tuple(rays)))
            self.assertEqual(parse_lot(format_lot(lot)), lot)


class Others(unittest.TestCase):
    def assert_none(self, parse, text):
        with self.assertRaises(BadText, msg=repr(text)):
            parse(text)

    def test_texts_changed_at_one_place(self):
        """A changed text is refused, or it is just the textual form of what is read."""
        for formed, parse, pairs in ALL:
            read = 0
            for text, _ in pairs:
                for other in changed(text):
                    try:
                        value = parse(other)
                    except BadText:
                        continue
                    read += 1
                    self.assertEqual(formed(value), other)
                    # Nothing but what stands in textual forms.
                    self.assertLessEqual(set(other), set("0123456789 ->;|adehmnorst"), other)
                    self.assertNotIn("  ", other)
                    self.assertEqual(other, other.strip())
            self.assertGreater(read, 40)

    def test_blanks_and_signs(self):
        for _, parse, pairs in ALL:
            for text, _ in pairs:
                for wrong in (" " + text, text + " ", text + "\n", "\n" + text, text + ";", text + "; ", text + " |",
                              text + " | ", text.replace(" ", "  ", 1) if " " in text else text + "  ", text + " 0",
                              text.replace(" ", "\t", 1) if " " in text else text + "\t", "+" + text, text + "\0"):
                    self.assert_none(parse, wrong)
            self.assert_none(parse, "")
            self.assert_none(parse, " ")
            self.assert_none(parse, ";")

    def test_numbers(self):
        for wrong in ("+1", "01", "-0", "00", "-01", "", "-", "--1", "1.0", "1e0", "1_0", "0x1", "\u0661", "\u00b9",
                      "\uff11",
                      "one", "\u22121", "True", "None"):
            self.assert_none(parse_standing, f"1 {wrong} 1")
            self.assert_none(parse_standing, f"{wrong} 1 1")
            self.assert_none(parse_lot, f"1 1 {wrong}")
            self.assert_none(parse_lot, f"1 1 1; 1 {wrong}")
            self.assert_none(parse_program, f"rooms {wrong}")
            self.assert_none(parse_program, f"rooms 2; 1>{wrong} 1 1")
            self.assert_none(parse_program, f"rooms 2; 1>1 1 {wrong}")
            self.assert_none(parse_program, f"rooms 2; test {wrong}>1")
            self.assert_none(parse_question, f"room {wrong}")
            self.assert_none(parse_question, f"most 1 {wrong} 1")
            self.assert_none(parse_question, f"most 1 1 {wrong}")
            self.assert_none(parse_question, f"rest 1 1 {wrong} 1")

    def test_how_many_digits(self):
        for digits in (1, 59, 60):
            number = int("7" * digits)
            self.assertEqual(parse_standing(f"0 {number} 0"), (0, number, 0))
            self.assertEqual(parse_lot(f"0 0 {number}; {number} 1"), [(0, (0, number), ((number, 1),))])
        for digits in (61, 62, 1000, 5000):
            number = "7" * digits
            self.assert_none(parse_standing, f"0 {number} 0")
            self.assert_none(parse_lot, f"0 0 {number}")
            self.assert_none(parse_lot, f"0 0 0; {number} 1")
            self.assert_none(parse_question, f"most 0 0 -{number}")
            self.assert_none(parse_program, f"rooms {number}")

    def test_no_programs(self):
        step, test = "0>0 1 1", "test 0>0"
        for wrong in ("rooms 0", "rooms 4", "rooms -1", "rooms", "room 1", "Rooms 1", "rooms1", "rooms 1;", "rooms 1 1",
                      "rooms 1; 0>1 0 0", "rooms 2; 2>0 0 0", "rooms 1; -1>0 0 0", "rooms 1; 0>0 3 0",
                      "rooms 1; 0>0 0 -3",
                      "rooms 1; test 0>1", "rooms 1; test 1>0", f"rooms 1; {test}; {step}", f"rooms 1; {step}, {step}",
                      "; ".join(["rooms 1"] + [step] * 5), "; ".join(["rooms 1"] + [test] * 3), f"rooms 1;{step}",
                      step, test,
                      f"{step}; rooms 1", f"rooms 1; {step} 0", "rooms 1; 0>0 1", "rooms 1; 0 >0 1 1",
                      "rooms 1; 0> 0 1 1",
                      "rooms 1; 0-0 1 1", "rooms 1; 0<0 1 1", "rooms 1; tests 0>0", "rooms 1; test0>0",
                      "rooms 1; test 0>0 0",
                      "rooms 1; 0>0>0 1 1", "rooms 1; 0 0 1 1", "rooms 1; test 0 0", "rooms 1; test",
                      "rooms 1; ; " + step,
                      f"rooms 1; rooms 1; {step}", "none", "rooms rooms 1", "1", "rooms 1; test test 0>0",
                      "rooms 1; 0>0 1>1"):
            self.assert_none(parse_program, wrong)
        self.assertEqual(len(parse_program("; ".join(["rooms 1"] + [step] * 4 + [test] * 2))[1]), 4)

    def test_no_standings(self):
        for wrong in ("3 0 0", "-1 0 0", "0 -1 0", "0 0 -1", "0 0", "0 0 0 0", "0,0,0", "(0, 0, 0)", "0", "none",
                      "0 0 0; 1 1"):
            self.assert_none(parse_standing, wrong)

    def test_no_lots(self):
        for wrong in ("3 0 0", "0 -1 0", "0 0 0; 0 0", "0 0 0; 1 -1", "0 0 0; 1 2; 2 4", "0 0 0; 1 1; 1 1", "0 0",
                      "0 0 0 0",
                      "0 0 0; 1", "0 0 0; 1 1 1", "0 0 0; 1 0; 0 1; 1 1", "0 0 0|1 0 0", "0 0 0 |1 0 0",
                      "0 0 0 || 1 0 0",
                      "0 0 0 | ", " | 0 0 0", "0 0 0 | none", "none | 0 0 0", "none none", "None", "nothing",
                      "0 0 0,1 0",
                      "0 0 0;1 0", "0 0 0 ; 1 0", "0 0 0; 1 0 ;", "0; 0 0", "[]", "0 0 0 1 0"):
            self.assert_none(parse_lot, wrong)

    def test_no_questions(self):
        texts = [joined("and", [form] * 5) for form in QUESTIONS[0][1:]] + [nested(7), *BEYOND]
        for question in texts:
            self.assert_none(parse_question, self.spelt(question))
        for wrong in ("room", "room 1 1", "rooms 1", "most 1 1", "most 1 1 1 1", "rest 1 1 2", "rest 1 1 2 0 0",
                      "not", "and",
                      "and room 1", "and room 1 room 1 room 1", "or room 1", "not room 1 room 1", "xor room 1 room 1",
                      "room 1 and room 1", "(room 1)", "not not", "not 1", "1", "room 1 not", "none", "not room1",
                      "NOT room 1",
                      "not " * 7 + "room 1", "not " * 100000 + "room 1", "and " * 1000 + "room 1 " * 1000 + "room 1",
                      "and and and room 1 room 1 room 1 and room 1 room 1"):
            self.assert_none(parse_question, wrong)
        self.assertEqual(parse_question("not " * 6 + "room 1"), nested(6))

    def spelt(self, question):
        """Write out what is no question as if it were one."""
        if not isinstance(question, tuple):
            return str(question)
        return " ".join(self.spelt(part) for part in question)

    def test_other_kinds(self):
        for _, parse, _ in ALL:
            for wrong in (None, True, 0, 1.5, b"none", b"", [], ["none"], (), (0, 0, 0), {}):
                self.assert_none(parse, wrong)


class Errors(unittest.TestCase):
    def test_programs(self):
        for wrong in helper.NO_PROGRAMS:
            self.assertRaises(BadProgram, format_program, wrong)

    def test_standings(self):
        for wrong in NO_STARTS:
            self.assertRaises(BadStanding, format_standing, wrong)
        self.assertEqual(format_standing((2, 5, 10 ** 45)), "2 5 1" + "0" * 45)

    def test_lots(self):
        for wrong in (None, (), "none", [None], *[[fan] for fan in NO_FANS]):
            self.assertRaises(BadFan, format_lot, wrong)

    def test_questions(self):
        for wrong in (*NO_QUESTIONS, *BEYOND, nested(7)):
            self.assertRaises(BadArgument, format_question, wrong)
