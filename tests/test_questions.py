"""Point 15: questions, and of which standings of a lot they are so."""

import copy
import itertools
import random
import unittest

from tests import helper
from tests.test_fans import NO_FANS
from tests.test_lots import drawn_fan, drawn_lots
from twinpurse.errors import BadArgument, BadFan, BadStanding, TooLarge
from twinpurse.fans import check_lot
from twinpurse.lots import least
from twinpurse.questions import answers, check_question, every, holds

GREAT = 10 ** 45
SEEN = 40
ROOM, MOST, REST = ("room", 1), ("most", 1, -2, 7), ("rest", 1, 3, 4, 2)
AT_BOUNDS = (
    ("room", 0), ("room", 2), ("most", -6, 6, 99), ("most", 6, -6, -99), ("most", 0, 0, 0), ("rest", -6, 6, 2, 0),
    ("rest", 6, -6, 6, 5), ("rest", 0, 0, 2, 1), ("not", ROOM), ("and", ROOM, MOST), ("or", MOST, MOST),
)
BEYOND = (
    ("room", -1), ("room", 3), ("most", -7, 0, 0), ("most", 7, 0, 0), ("most", 0, -7, 0), ("most", 0, 7, 0),
    ("most", 0, 0, 100), ("most", 0, 0, -100), ("rest", -7, 0, 2, 0), ("rest", 7, 0, 2, 0), ("rest", 0, -7, 2, 0),
    ("rest", 0, 7, 2, 0), ("rest", 1, 1, 1, 0), ("rest", 1, 1, 7, 0), ("rest", 1, 1, 0, 0), ("rest", 1, 1, 2, 2),
    ("rest", 1, 1, 6, 6), ("rest", 1, 1, 3, -1),
)
NO_QUESTIONS = (
    None, True, 0, "", "room 1", "room", (), [], {}, ("room",), ("room", 1, 1), ["room", 1], ("Room", 1), ("rooms", 1),
    (1, "room"), ("most", 1, 2), ("most", 1, 2, 3, 4), ("most",), ("rest", 1, 2, 3), ("rest", 1, 2, 3, 0, 0), ("not",),
    ("not", ROOM, ROOM), ("and", ROOM), ("and", ROOM, ROOM, ROOM), ("or",), ("or", ROOM), ("xor", ROOM, ROOM), (ROOM,),
    (None, ROOM), (True, ROOM), ([], ROOM), ("not", "room"), ("not", ()), ("and", ROOM, None), ("or", [], ROOM),
    ("not", ["room", 1]), ("and", ROOM, list(MOST)), (ROOM, ROOM), ("not", 1), b"not", (b"room", 1), ("", ROOM),
)


def nested(nots, inner=ROOM):
    for _ in range(nots):
        inner = ("not", inner)
    return inner


def joined(name, parts):
    whole = parts[0]
    for part in parts[1:]:
        whole = (name, whole, part)
    return whole


class Form(unittest.TestCase):
    def assert_question(self, question):
        self.assertIsNone(check_question(question), question)

    def assert_none(self, question):
        with self.assertRaises(BadArgument, msg=question):
            check_question(question)

    def test_each_form(self):
        for question in (ROOM, MOST, REST, *AT_BOUNDS):
            self.assert_question(question)
            self.assert_question(("not", question))
            self.assert_question(("and", question, ROOM))
            self.assert_question(("or", ROOM, question))
        for modulus in range(2, 7):
            for remainder in range(-1, 8):
                told = ("rest", 1, 1, modulus, remainder)
                (self.assert_question if 0 <= remainder < modulus else self.assert_none)(told)

    def test_beyond_bounds(self):
        for question in (*BEYOND, *NO_QUESTIONS):
            self.assert_none(question)
            self.assert_none(("not", question))
            self.assert_none(("and", question, ROOM))
            self.assert_none(("or", ROOM, question))

    def test_great_numbers(self):
        for path in helper.places(("and", MOST, ("or", REST, ROOM)), int):
            for great in (GREAT, -GREAT):
                self.assert_none(helper.put(("and", MOST, ("or", REST, ROOM)), path, great))

    def test_other_kinds(self):
        whole = ("and", ("not", ROOM), ("or", MOST, REST))
        self.assert_question(whole)
        for wrong in helper.spoilt_kinds(whole):
            self.assert_none(wrong)
        for path in helper.places(whole, tuple):
            for wrong in helper.spoilt_length(whole, path, 0):
                self.assert_none(wrong)
        for path in helper.places(whole, str):
            for wrong in ("", "ROOM", "room ", "nor", 1, None, True, ("not",)):
                self.assert_none(helper.put(whole, path, wrong))

    def test_how_many_forms(self):
        forms = [ROOM, MOST, REST, ROOM, MOST]
        for name in ("and", "or"):
            self.assert_question(joined(name, forms[:4]))
            self.assert_none(joined(name, forms))
        pair = ("and", ROOM, ROOM)
        self.assert_question(("or", pair, pair))
        self.assert_none(("or", pair, ("or", pair, ROOM)))
        self.assert_none(("or", pair, ("not", ("or", pair, ROOM))))

    def test_how_many_others(self):
        self.assert_question(nested(6))
        self.assert_none(nested(7))
        self.assert_none(nested(5000))
        self.assert_question(nested(3, joined("or", [ROOM, MOST, REST, nested(0)])))
        self.assert_none(nested(4, joined("or", [ROOM, MOST, REST, ROOM])))
        self.assert_question(("and", nested(2), nested(3)))
        self.assert_none(("and", nested(3), nested(3)))
        wide = ROOM
        for _ in range(300):
            wide = ("and", wide, wide)
        self.assert_none(wide)


class Holds(unittest.TestCase):
    def test_rooms(self):
        for room, asked in itertools.product(range(3), repeat=2):
            self.assertIs(holds(("room", asked), (room, 4, 5)), room == asked)

    def test_sums(self):
        self.assertIs(holds(("most", 1, -2, 7), (0, 9, 1)), True)
        self.assertIs(holds(("most", 1, -2, 7), (0, 10, 1)), False)
        self.assertIs(holds(("most", 0, 0, 0), (0, 10, 1)), True)
        self.assertIs(holds(("most", 0, 0, -1), (0, 10, 1)), False)
        for u, v, w in itertools.product((-6, -1, 0, 2, 6), (-5, 0, 1, 6), (-99, -3, 0, 5, 99)):
            for a, b in itertools.product(range(0, 40, 3), repeat=2):
                self.assertIs(holds(("most", u, v, w), (1, a, b)), u * a + v * b <= w)

    def test_remainders_are_never_below_0(self):
        self.assertIs(holds(("rest", -1, 0, 3, 2), (0, 1, 0)), True)
        self.assertIs(holds(("rest", -1, 0, 3, 0), (0, 1, 0)), False)
        self.assertIs(holds(("rest", -6, -5, 4, 1), (0, 1, 1)), True)
        for u, v, m in itertools.product((-6, -1, 0, 5), (-5, 0, 2), range(2, 7)):
            for a, b in itertools.product(range(7), repeat=2):
                told = [remainder for remainder in range(m) if holds(("rest", u, v, m, remainder), (2, a, b))]
                self.assertEqual(told, [(u * a + v * b) % m])

    def test_joined(self):
        yes, no = ("most", 0, 0, 0), ("most", 0, 0, -1)
        for left, right in itertools.product((yes, no), repeat=2):
            one, two = left == yes, right == yes
            self.assertIs(holds(("and", left, right), (0, 0, 0)), one and two)
            self.assertIs(holds(("or", left, right), (0, 0, 0)), one or two)
            self.assertIs(holds(("not", left), (0, 0, 0)), not one)

    def test_drawn(self):
        rng = random.Random(1)
        for _ in range(2000):
            question = helper.drawn_question(rng, rng.randint(1, 4), rng.choice((9, 99)))
            most = rng.choice((9, 99, GREAT))
            standing = (rng.randrange(3), rng.randint(0, most), rng.randint(0, most))
            self.assertIs(holds(question, standing), helper.slow_holds(question, standing))

    def test_great_numbers(self):
        self.assertIs(holds(("most", 6, -6, 0), (0, GREAT, GREAT)), True)
        self.assertIs(holds(("most", 6, -6, 5), (0, GREAT + 1, GREAT)), False)
        self.assertIs(holds(("most", 6, -6, -6), (0, GREAT, GREAT + 1)), True)
        self.assertIs(holds(("rest", 1, 0, 3, 1), (0, GREAT, 0)), True)
        self.assertIs(holds(("rest", -1, 0, 3, 2), (0, GREAT, 10 ** 500)), True)

    def test_errors_in_order(self):
        for question in (None, ("room", 3), (*MOST, 1)):
            for standing in ((0, 1, 2), None, (3, 0, 0)):
                self.assertRaises(BadArgument, holds, question, standing)
        for standing in (None, (3, 0, 0), (0, -1, 0), (0, 0), [0, 0, 0], (True, 0, 0), (0, 1, None), "0 0 0"):
            self.assertRaises(BadStanding, holds, ROOM, standing)
        self.assertIs(holds(("room", 2), (2, 0, 0)), True)


class OfLots(unittest.TestCase):
    def compare(self, lot, question):
        kept = copy.deepcopy((lot, question))
        told, counter = answers(lot, question), every(lot, question)
        self.assertEqual((lot, question), kept)
        self.assertIsNone(check_lot(told))
        self.assertIsNot(told, lot)
        seen = helper.seen(lot, SEEN)
        yes = {standing for standing in seen if helper.slow_holds(question, standing)}
        self.assertEqual(helper.seen(told, SEEN), yes, (lot, question))
        if counter is not None:
            self.assertFalse(helper.slow_holds(question, counter), (lot, question))
        small = [standing for standing in seen - yes if standing[1] + standing[2] < SEEN]
        if small:
            self.assertEqual(counter, min(small, key=helper.order), (lot, question))
        elif counter is not None:
            self.assertGreaterEqual(counter[1] + counter[2], SEEN)
        return told, counter

    def test_drawn_lots(self):
        rng = random.Random(2)
        for lot, _ in drawn_lots(3, 1200):
            self.compare(lot, helper.drawn_question(rng, rng.randint(1, 4), rng.choice((5, 20, 20, 99))))

    def test_each_number_of_rays(self):
        rng = random.Random(4)
        for rays in ((), ((0, 3),), ((2, 0),), ((4, 2),), ((1, 0), (0, 1)), ((2, 1), (1, 3)), ((4, 3), (3, 3))):
            for base in ((0, 0), (3, 0), (12, 12), (1, 11)):
                for _ in range(12):
                    question = helper.drawn_question(rng, rng.randint(1, 4), 20)
                    self.compare([(rng.randrange(3), base, rays)], question)

    def test_so_of_all_or_none(self):
        lot = [(0, (0, 0), ((1, 0), (0, 1))), (2, (3, 1), ((1, 2),)), (1, (5, 5), ())]
        for question in (("most", 0, 0, 0), ("most", -1, -1, 0), ("rest", 0, 0, 2, 0), ("not", ("most", 6, 6, -1)),
                         ("or", ("room", 0), ("or", ("room", 1), ("room", 2)))):
            self.assertIsNone(self.compare(lot, question)[1])
            self.assertEqual(helper.seen(answers(lot, question), SEEN), helper.seen(lot, SEEN))
            told, counter = self.compare(lot, ("not", question))
            self.assertEqual((helper.seen(told, 300), counter), (set(), (0, 0, 0)))
        self.assertEqual(answers([], MOST), [])
        self.assertIsNone(every([], ("most", 0, 0, -1)))

    def test_directions_between_the_rays(self):
        quarter = [(0, (0, 0), ((1, 0), (0, 1)))]
        for u, v in itertools.product((-6, -5, -1, 1, 2, 5, 6), repeat=2):
            self.compare(quarter, ("most", u, v, 3))
            self.compare(quarter, ("and", ("most", u, -v, 7), ("not", ("most", v, -u, -7))))
            self.compare([(1, (7, 3), ((4, 1), (3, 2)))], ("and", ("most", u, -v, 7), ("rest", u, v, 3, 1)))

    def test_far_away(self):
        quarter = [(0, (0, 0), ((1, 0), (0, 1)))]
        self.assertEqual(every(quarter, ("most", 1, 1, 99)), (0, 0, 100))
        self.assertEqual(every(quarter, ("most", 6, -6, 99)), (0, 17, 0))
        self.assertEqual(every(quarter, ("or", ("most", 1, 0, 99), ("most", 0, 1, 99))), (0, 100, 100))
        self.assertEqual(every(quarter, ("or", ("most", 6, -5, 99), ("most", -6, 5, 98))), None)
        narrow = ("and", ("most", 6, -5, 99), ("not", ("most", 6, -5, 98)))
        self.assertEqual(every(quarter, ("not", narrow)), (0, 19, 3))
        both = ("and", ("rest", 1, 0, 6, 5), ("rest", 0, 1, 5, 4))
        self.assertEqual(every(quarter, ("not", ("and", both, ("not", ("most", 1, 1, 90))))), (0, 17, 74))

    def test_the_lot_that_is_returned_may_be_large(self):
        quarter = [(0, (0, 0), ((1, 0), (0, 1)))]
        told = answers(quarter, ("and", ("most", 1, 1, 99), ("not", ("most", 1, 1, 89))))
        between = {(0, a, b) for a in range(100) for b in range(100) if 90 <= a + b < 100}
        self.assertEqual(helper.seen(told, 110), between)
        told = answers([(0, (12, 11), ((4, 1), (1, 1)))], ("and", ("most", 6, -5, 99), ("most", -6, 5, 99)))
        self.assertTrue(any(max(base) > 40 or rays and max(rays[0]) > 4 for _, base, rays in told))

    def test_too_large(self):
        fits = [
            [(0, (12, 12), ((4, 4), (0, 1)))], [(0, (12, 0), ())] * 4, [(0, (0, 0), ((3, 0),)), (0, (0, 0), ((0, 2),))],
            [(0, (0, 0), ((2, 0), (0, 3)))], [],
        ]
        beyond = [
            [(0, (13, 0), ())], [(0, (0, 13), ())], [(0, (0, 0), ((5, 0),))], [(0, (0, 0), ((0, 5),))],
            [(0, (1, 1), ())] * 5, [(0, (0, 0), ((4, 0),)), (0, (0, 0), ((3, 0),))], [(0, (0, 0), ((3, 1), (1, 3)))],
            [(0, (0, 0), ((4, 0), (0, 2)))], [(0, (GREAT, 0), ())], [(0, (0, 0), ((1, GREAT),))],
        ]
        for question in (ROOM, MOST, REST, ("most", 0, 0, 0), ("most", 0, 0, -1), nested(6), ("and", MOST, REST)):
            for lot in fits:
                self.compare(lot, question)
            for lot in beyond:
                for called in (answers, every):
                    self.assertRaises(TooLarge, called, lot, question)

    def test_too_large_exactly_as_for_lots(self):
        rng = random.Random(5)
        for _ in range(300):
            lot = [drawn_fan(rng, tuple(range(1, 17))) for _ in range(rng.randint(0, 3))]
            for called in (least, lambda told: answers(told, ROOM), lambda told: every(told, ROOM)):
                try:
                    called(lot)
                    fits = True
                except TooLarge:
                    fits = False
                if called is least:
                    wanted = fits
                self.assertEqual(fits, wanted, lot)

    def test_errors_in_order(self):
        large = [(0, (13, 0), ())]
        for called in (answers, every):
            for wrong in (None, (), "none", [None], [(3, (0, 0), ())], *[[fan] for fan in NO_FANS]):
                for question in (ROOM, None, ("room", 3)):
                    self.assertRaises(BadFan, called, wrong, question)
            for question in (None, ("room", 3), nested(7), *NO_QUESTIONS):
                self.assertRaises(BadArgument, called, large, question)
                self.assertRaises(BadArgument, called, [], question)
            self.assertRaises(TooLarge, called, large, ROOM)
