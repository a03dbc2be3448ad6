"""Points 6 to 8: roads, when they are right, which words they tell, and where they lead."""

import copy
import random
import unittest

from tests import helper
from twinpurse.errors import BadArgument, BadFan, BadProgram, BadRoad, BadStanding, TooLarge
from twinpurse.fans import standing_at
from twinpurse.reach import reach
from twinpurse.roads import is_road, ride, spell

GREAT = 10 ** 30
# Moves: 0 and 1 put in, 2 and 3 exchange, 4 leads to room 1, 5 is a ring there, 6 and 7 are tests.
SHOP = (
    2, ((0, 0, 2, 0), (0, 0, -1, 2), (0, 1, 0, -1), (1, 1, -2, 1)), ((1, 0), (1, 1)),
)
TRIED = {
    0: [()],
    1: [(0,), (1,), (2,), (3,), (4,), (7,), (12,), (30,)],
    2: [(x, y) for x in (0, 1, 2, 3, 5, 11) for y in (0, 1, 2, 3, 6, 10)] + [(0, 25), (25, 0)],
}
# Program, start, fan, road.
RIGHT = (
    (SHOP, (0, 3, 4), (0, (3, 4), ()), ()),
    (SHOP, (0, 3, 4), (0, (3, 4), ()), (("walk", ()), ("walk", ()))),
    (SHOP, (0, 1, 0), (1, (2, 1), ()), (("walk", (0,)), ("ring", (1,), (1,)), ("walk", (2,)))),
    (SHOP, (0, 0, 1), (1, (4, 0), ()), (("ring", (0,), (2,)), ("walk", (2,)))),
    (SHOP, (0, 0, 1), (0, (0, 1), ((2, 0),)), (("ring", (0,), (0, 1)),)),
    (SHOP, (0, 0, 1), (0, (0, 5), ((0, 4),)), (("ring", (0,), (1, 1)), ("ring", (1,), (2, 2)))),
    (SHOP, (0, 0, 1), (0, (0, 1), ((0, 4),)), (("ring", (0,), (0, 1)), ("ring", (1,), (0, 2)))),
    (SHOP, (0, 2, 1), (0, (2, 1), ((2, 0), (0, 4))), (("ring", (0,), (0, 1, 1)), ("ring", (1,), (0, 0, 2)))),
    (SHOP, (0, 0, 2), (0, (0, 2), ()), (("walk", (0,)), ("walk", (2,)), ("walk", (3, 4)), ("ring", (0,), (0,)),
                                        ("ring", (0,), (1,)), ("walk", (2, 3, 4)))),
    (SHOP, (0, 0, 1), (1, (2, 0), ((2, 0),)), (("ring", (0,), (1, 1)), ("walk", (2,)), ("ring", (3,), (0, 0)))),
    (SHOP, (0, 0, 1), (1, (0, 1), ((0, 1),)), (("ring", (0,), (1, 1)), ("walk", (2,)), ("ring", (3,), (1, 1)))),
    (SHOP, (0, 0, 1), (1, (0, 0), ((0, 1),)), (("ring", (0,), (0, 1)), ("walk", (2,)), ("ring", (3,), (0, 1)))),
    (SHOP, (0, 0, 1), (1, (0, 1), ()), (("walk", (0, 2)), ("ring", (3,), (1,)), ("ring", (5,), (3,)))),
    (SHOP, (0, 0, 1), (1, (0, 1), ((0, 1),)), (("ring", (0,), (1, 1)), ("walk", (2,)), ("ring", (3,), (1, 1)),
                                               ("ring", (5, 5), (1, 2)))),
    # A ring with tests, as often as its count: it leaves the first purse as it is.
    (SHOP, (0, 0, 1), (0, (0, 1), ()), (("ring", (0, 2, 3, 4), (GREAT,)),)),
    (SHOP, (0, 2, 1), (0, (2, 1), ((2, 0),)), (("ring", (0,), (0, 1)), ("ring", (5, 3, 5), (0, 0)))),
    (SHOP, (0, 0, 1), (0, (0, 1), ()), (("ring", (0, 2, 3, 4), (3,)),)),
    (SHOP, (1, 0, 0), (1, (0, 0), ()), (("ring", (5,), (4,)),)),
    # It does not leave it so: it can be made once.
    (SHOP, (1, 2, 0), (1, (0, 1), ()), (("ring", (3, 5), (1,)),)),
    (SHOP, (0, GREAT, GREAT), (0, (0, 3 * GREAT), ((0, 4),)), (("ring", (0,), (0, 1)), ("ring", (1,), (GREAT, 2)))),
)
WRONG = (
    (SHOP, (0, 3, 4), (0, (3, 5), ()), ()), (SHOP, (0, 3, 4), (1, (3, 4), ()), ()),
    (SHOP, (0, 3, 4), (0, (4, 4), ()), ()), (SHOP, (1, 3, 4), (0, (3, 4), ()), ()),
    (SHOP, (0, 3, 4), (0, (3, 4), ((1, 0),)), ()),
    # It ends in the right standing, but passes one below 0.
    (SHOP, (0, 0, 1), (0, (0, 5), ()), (("ring", (1,), (2,)), ("ring", (0,), (1,)))),
    (SHOP, (0, 0, 1), (0, (0, 1), ((0, 4),)), (("ring", (1,), (0, 2)), ("ring", (0,), (0, 1)))),
    # Enough ahead of the first time, not ahead of the last one.
    (SHOP, (0, 3, 0), (0, (0, 8), ()), (("ring", (1,), (4,)), ("ring", (0,), (1,)))),
    (SHOP, (0, 3, 0), (0, (3, 0), ((0, 4),)), (("ring", (1,), (0, 2)), ("ring", (0,), (0, 1)))),
    # It begins in another room; a ring that is taken for some counts only, too.
    (SHOP, (0, 2, 0), (0, (0, 1), ()), (("ring", (3,), (1,)),)),
    (SHOP, (0, 2, 0), (0, (2, 0), ((2, 0),)), (("ring", (0,), (0, 1)), ("ring", (5,), (0, 1)))),
    (SHOP, (1, 1, 0), (1, (1, 0), ()), (("walk", (5,)),)), (SHOP, (1, 1, 0), (1, (1, 0), ()), (("ring", (5,), (1,)),)),
    # A ring with a need of None, and with a test and an effect on the first purse.
    (SHOP, (1, 2, 0), (1, (0, 1), ()), (("walk", (5, 3, 5)),)),
    (SHOP, (1, 4, 0), (1, (0, 2), ()), (("ring", (3, 5), (2,)),)),
    (SHOP, (1, 2, 0), (1, (2, 0), ((0, 1),)), (("ring", (3, 5), (0, 1)),)),
)


class IsRoad(unittest.TestCase):
    def test_right_roads(self):
        for case in RIGHT:
            self.assertTrue(is_road(*case), case)

    def test_wrong_roads(self):
        for case in WRONG:
            self.assertIs(is_road(*case), False, case)

    def test_right_roads_by_playing(self):
        for program, start, fan, road in RIGHT:
            if max(fan[1]) < 100 and all(max(part[2]) < 100 for part in road if part[0] == "ring"):
                self.assertTrue(helper.slow_is_road(program, start, fan, road, TRIED[len(fan[2])]), road)

    def reckoned(self, program, start, fan, road):
        wanted = helper.slow_is_road(program, start, fan, road, TRIED[len(fan[2])])
        self.assertIs(is_road(program, start, fan, road), wanted, (program, start, fan, road))
        return wanted

    def changed_in_one_place(self, program, start, fan, road):
        seen = {True: 0, False: 0}
        room, base, rays = fan
        many = len(program[1]) + len(program[2])
        for changed in changed_roads(road, many):
            seen[self.reckoned(program, start, fan, changed)] += 1
        for path in helper.places((base, rays), int):
            for more in (1, -1, 2):
                number = helper.part_at((base, rays), path) + more
                other = (room, *helper.put((base, rays), path, number))
                if number >= 0 and is_fan(other):
                    seen[self.reckoned(program, start, other, road)] += 1
        if len(rays) == 2:
            seen[self.reckoned(program, start, (room, base, rays[::-1]), road)] += 1
        for more in (1, -1):
            for at in (1, 2):
                if start[at] + more >= 0:
                    other = helper.put(start, (at,), start[at] + more)
                    seen[self.reckoned(program, other, fan, road)] += 1
                    moved = (room, helper.put(base, (at - 1,), base[at - 1] + more), rays)
                    if base[at - 1] + more >= 0:
                        seen[self.reckoned(program, other, moved, road)] += 1
        return seen

    def test_changed_in_one_place(self):
        total = {True: 0, False: 0}
        for program, start, fan, road in RIGHT:
            if max(fan[1]) < 100 and all(max(part[2]) < 100 for part in road if part[0] == "ring"):
                seen = self.changed_in_one_place(program, start, fan, road)
                total = {key: total[key] + seen[key] for key in total}
        self.assertGreater(total[True], 30)
        self.assertGreater(total[False], 300)

    def test_changed_roads_of_papers(self):
        rng = random.Random(61)
        total = {True: 0, False: 0}
        for program, start in helper.drawn_cases(6, 60):
            lot, roads, _ = reach(program, start)
            for at in rng.sample(range(len(lot)), min(2, len(lot))):
                self.assertTrue(self.reckoned(program, start, lot[at], roads[at]))
                if sum(len(part[1]) for part in roads[at]) < 15:
                    seen = self.changed_in_one_place(program, start, lot[at], roads[at])
                    total = {key: total[key] + seen[key] for key in total}
        self.assertGreater(total[True], 30)
        self.assertGreater(total[False], 1000)

    def test_rings_never_taken(self):
        fan = (0, (3, 4), ((2, 0),))
        for word in ((3,), (5, 3), (5, 3, 5), (3, 5, 3), (4, 2), (2, 4)):
            road = (("ring", (0,), (0, 1)), ("ring", word, (0, 0)))
            for at in range(3):
                parts = list(road[:1])
                parts.insert(at, road[1])
                self.assertTrue(is_road(SHOP, (0, 3, 4), fan, tuple(parts)), (word, at))
            self.assertFalse(is_road(SHOP, (0, 3, 4), fan, (road[0], ("ring", word, (1, 0)))), word)

    def test_need_of_none_is_no_matter_if_never_taken(self):
        word = (5, 3, 5)
        self.assertTrue(is_road(SHOP, (1, 9, 9), (1, (9, 9), ()), (("ring", word, (0,)),)))
        for rounds in ((1,), (2,)):
            self.assertFalse(is_road(SHOP, (1, 9, 9), (1, (9, 9), ()), (("ring", word, rounds),)))
        self.assertFalse(is_road(SHOP, (1, 2, 9), (1, (2, 9), ((0, 1),)), (("ring", word, (0, 1)),)))

    def test_multiples_without_an_own_number(self):
        # Only from one time on the ring needs anything.
        road = (("ring", (0,), (0, 1)), ("ring", (1,), (0, 2)))
        self.assertTrue(is_road(SHOP, (0, 0, 0), (0, (0, 0), ((0, 4),)), road))
        self.assertFalse(is_road(SHOP, (0, 0, 0), (0, (0, 0), ((0, 4),)), road[::-1]))
        pair = (("ring", (0,), (0, 1, 0)), ("ring", (1,), (0, 2, 0)), ("ring", (0,), (0, 0, 1)))
        self.assertTrue(is_road(SHOP, (0, 0, 0), (0, (0, 0), ((0, 4), (2, 0))), pair))
        both = (("ring", (0,), (0, 1, 0)), ("ring", (1,), (0, 2, 1)), ("ring", (0,), (0, 0, 1)))
        self.assertFalse(is_road(SHOP, (0, 0, 0), (0, (0, 0), ((0, 4), (1, 2))), both))

    def test_hundreds_of_parts(self):
        road = (("walk", ()),) * 400 + (("ring", (0,), (0, 1)),) + (("walk", ()), ("ring", (3,), (0, 0))) * 300
        self.assertTrue(is_road(SHOP, (0, 3, 4), (0, (3, 4), ((2, 0),)), road))
        self.assertFalse(is_road(SHOP, (0, 3, 4), (0, (3, 5), ((2, 0),)), road))
        long = (("walk", (0, 1) * 3000), ("ring", (0, 1) * 2000, (GREAT, GREAT)))
        fan = (0, (3003 + 2000 * GREAT, 6004 + 4000 * GREAT), ((2000 * GREAT, 4000 * GREAT),))
        self.assertTrue(is_road(SHOP, (0, 3, 4), fan, long))

    def test_starts_of_any_size(self):
        fan = (0, (GREAT - 5, GREAT + 10), ())
        self.assertTrue(is_road(SHOP, (0, GREAT, GREAT), fan, (("ring", (1,), (5,)),)))
        self.assertFalse(is_road(SHOP, (0, 4, GREAT), (0, (0, GREAT + 10), ()), (("ring", (1,), (5,)),)))

    def test_everything_else_is_no_road(self):
        start, fan = (0, 0, 1), (0, (2, 1), ())
        self.assertTrue(is_road(SHOP, start, fan, (("walk", (0,)),)))
        for wrong in NO_ROADS:
            self.assertIs(is_road(SHOP, start, fan, wrong), False, wrong)
        for wrong in helper.spoilt_kinds((("walk", (0,)), ("ring", (0,), (0,)))):
            self.assertIs(is_road(SHOP, start, fan, wrong), wrong == () and fan == start, wrong)

    def test_rounds_of_the_wrong_length(self):
        for rays, rounds in (((), (0, 0)), ((), ()), (((2, 0),), (0,)), (((2, 0),), (0, 1, 0)),
                             (((2, 0), (0, 1)), (0, 1))):
            fan = (0, (0, 1), rays)
            self.assertIs(is_road(SHOP, (0, 0, 1), fan, (("ring", (0,), rounds),)), False)

    def test_errors_in_their_order(self):
        for program in helper.NO_PROGRAMS:
            self.assertRaises(BadProgram, is_road, program, None, None, None)
        for start in ((2, 0, 0), (0, -1, 0), [0, 0, 0], None, (0, True, 0), (0, 0)):
            self.assertRaises(BadStanding, is_road, SHOP, start, None, None)
        for fan in (None, [], (0, (0, 0)), (3, (0, 0), ()), (0, (0, 0), ((0, 0),)), (0, (0, True), ())):
            self.assertRaises(BadFan, is_road, SHOP, (0, 0, 0), fan, None)
        self.assertIs(is_road(SHOP, (0, 0, 0), (2, (0, 0), ()), ()), False)

    def test_arguments_stay(self):
        for case in RIGHT:
            kept = copy.deepcopy(case)
            is_road(*case)
            self.assertEqual(case, kept)


NO_ROADS = (
    None, True, False, 0, "", "walk", [], {}, [("walk", (0,))], (("walk", [0]),), (["walk", (0,)],), ("walk", (0,)),
    (("walk",),), (("walk", (0,), (1,)),), (("Walk", (0,)),), (("ring", (0,)),), (("walk", (6,)),), (("walk", (-1,)),),
    (("walk", (True,)),), (("walk", ("0",)),), (("walk", 0),), (("walk", None),), ((None, (0,)),), ((),), (None,),
    (("ring", (0,), 1),), (("ring", (0,), (True,)),), (("ring", (0,), [1]),), (("ring", (0,), (-1,)),),
    (("ring", (0,), (1,), ()),), (("ring", (6,), (1,)),), (("ring", (), (1,)), ("walk", (0,))),
    (("ring", (), (0,)), ("walk", (0,))), (("ring", (2,), (0,)), ("walk", (0,))),
    (("ring", (2, 0), (0,)), ("walk", (0,))), (("ring", (0, 3), (0,)), ("walk", (0,))),
    (("walk", (0,)), ("ring", (0, 3, 0), (0,))), (("walk", (0, 3, 0)),), (("walk", (0,)), ("walk", (3, 0))),
    (("ring", (0,), (None,)),), (("ring", (0,), "1"),), (("walk", ("walk", (0,))),), ((("walk", (0,)),),),
)


def is_fan(fan):
    from twinpurse.fans import check_fan
    try:
        check_fan(fan)
    except BadFan:
        return False
    return True


def changed_roads(road, many):
    """Yield roads that differ in one place: a round, a move, or a part left out, twice or exchanged."""
    for at, part in enumerate(road):
        yield road[:at] + road[at + 1:]
        yield road[:at] + (part,) + road[at:]
        if at + 1 < len(road):
            yield road[:at] + (road[at + 1], part) + road[at + 2:]
        for place in range(len(part[1])):
            for move in range(many):
                if move != part[1][place]:
                    yield helper.put(road, (at, 1, place), move)
            yield helper.put(road, (at, 1), part[1][:place] + part[1][place + 1:])
        if part[0] == "ring":
            for place, number in enumerate(part[2]):
                for more in (1, -1, 2):
                    if number + more >= 0:
                        yield helper.put(road, (at, 2, place), number + more)


class Spell(unittest.TestCase):
    def test_words(self):
        self.assertEqual(spell((), ()), ())
        self.assertEqual(spell((("walk", ()),), ()), ())
        self.assertEqual(spell((("walk", (0, 3)), ("ring", (1, 2), (2,)), ("walk", (5,))), ()), (0, 3, 1, 2, 1, 2, 5))
        road = (("ring", (7, 8), (1, 2)), ("walk", (9,)))
        self.assertEqual(spell(road, (0,)), (7, 8, 9))
        self.assertEqual(spell(road, (1,)), (7, 8) * 3 + (9,))
        self.assertEqual(spell((("ring", (4,), (1, 2, 3)),), (5, 7)), (4,) * 32)
        self.assertEqual(spell((("ring", (4,), (0, 0, 3)),), (5, 0)), ())

    def test_any_integers_from_0_on(self):
        self.assertEqual(spell((("walk", (GREAT, 0, 77)), ("ring", (GREAT,), (2,))), ()), (GREAT, 0, 77, GREAT, GREAT))

    def test_as_the_document_tells(self):
        for program, start in helper.drawn_cases(8, 40):
            lot, roads, _ = reach(program, start)
            for fan, road in zip(lot[:5], roads):
                for counts in helper.counts_up_to(3, len(fan[2])):
                    word = spell(road, counts)
                    self.assertEqual(word, helper.slow_spell(road, counts))
                    self.assertEqual(helper.slow_play(program, start, word), standing_at(fan, counts))
                    self.assertEqual(ride(program, start, road, counts), standing_at(fan, counts))

    def test_a_hundred_thousand_moves(self):
        self.assertEqual(spell((("ring", (0,), (100000,)),), ()), (0,) * 100000)
        self.assertEqual(len(spell((("walk", (0,) * 40000), ("ring", (1, 2, 3), (0, 20000))), (1,))), 100000)
        self.assertEqual(len(spell((("walk", (0,) * 100000), ("ring", (1,), (0, GREAT))), (0,))), 100000)
        for road, counts in (
            ((("ring", (0,), (100001,)),), ()), ((("walk", (0,) * 100001),), ()), ((("ring", (0,), (GREAT,)),), ()),
            ((("ring", (0,), (0, 1)),), (GREAT,)), ((("walk", (0,)), ("ring", (1, 2, 3, 4), (0, 25000))), (1,)),
            ((("ring", (0,), (0, 1, 1)),), (50000, 50001)),
        ):
            self.assertRaises(TooLarge, spell, road, counts)

    def test_wrong_counts_come_first(self):
        for counts in NO_COUNTS:
            self.assertRaises(BadArgument, spell, (("walk", (0,)),), counts)
            self.assertRaises(BadArgument, spell, None, counts)

    def test_wrong_roads(self):
        for wrong in (
            None, [], "walk", (("walk", [0]),), (("walk", (-1,)),), (("walk", (True,)),), (("ring", (), (1,)),),
            (("ring", (0,), (1, 1)),), (("ring", (0,), ()),), (("ring", (0,), (-1,)),), (("ring", (0,), (True,)),),
            (("walk", (0,), (1,)),), (("ring", (0,)),), (["walk", (0,)],), (("step", (0,)),), ((),), (None,),
            (("ring", (0,), (GREAT,)), ("ring", (), (0,))),
        ):
            self.assertRaises(BadRoad, spell, wrong, ())
        self.assertRaises(BadRoad, spell, (("ring", (0,), (1,)),), (3,))
        self.assertRaises(BadRoad, spell, (("ring", (0,), (1, 1)),), (3, 4))
        # What is taken need not be a ring of any program here.
        self.assertEqual(spell((("ring", (0, 5), (1,)),), ()), (0, 5))


NO_COUNTS = (None, [], [0], 0, "", (True,), (-1,), (0, -1), (0, 0, 0), ("0",), (0, None), (False, 0), {}, ((0,),))


class Ride(unittest.TestCase):
    def test_counts_of_any_size(self):
        road = (("ring", (0,), (1, 1)), ("ring", (1,), (2, 2)), ("walk", (2,)))
        self.assertEqual(ride(SHOP, (0, 0, 0), road, (GREAT,)), (1, 0, 4 * GREAT + 3))
        pair = (("ring", (0,), (0, 1, 1)), ("ring", (1,), (0, 0, 2)))
        self.assertEqual(ride(SHOP, (0, 2, 1), pair, (GREAT, 2 * GREAT)), (0, 2 * GREAT + 2, 8 * GREAT + 1))
        self.assertEqual(ride(SHOP, (0, GREAT, 1), (("ring", (1,), (GREAT,)),), ()), (0, 0, 2 * GREAT + 1))
        self.assertRaises(BadRoad, ride, SHOP, (0, GREAT - 1, 1), (("ring", (1,), (GREAT,)),), ())

    def test_against_playing(self):
        rng = random.Random(8)
        made = 0
        for _ in range(1500):
            program = helper.drawn_program(rng)
            start = helper.drawn_start(rng, program)
            size = rng.randrange(3)
            road = drawn_road(rng, program, start[0], size)
            for _ in range(3):
                counts = tuple(rng.randrange(4) for _ in range(size))
                wanted = helper.slow_play(program, start, helper.slow_spell(road, counts))
                if not helper.slow_is_road_form(program, road, size):
                    wanted = None
                if wanted is None:
                    self.assertRaises(BadRoad, ride, program, start, road, counts)
                else:
                    made += 1
                    self.assertEqual(ride(program, start, road, counts), wanted)
        self.assertGreater(made, 500)

    def test_wrong_roads(self):
        for wrong in NO_ROADS:
            if wrong != (("walk", (0,)), ("walk", (3, 0))):
                self.assertRaises(BadRoad, ride, SHOP, (0, 0, 1), wrong, ())
        self.assertRaises(BadRoad, ride, SHOP, (0, 0, 1), (("walk", (0,)), ("walk", (3, 0))), ())
        self.assertRaises(BadRoad, ride, SHOP, (0, 0, 1), (("ring", (0,), (1,)),), (1,))
        self.assertEqual(ride(SHOP, (0, 0, 1), (("ring", (3,), (0,)), ("ring", (0,), (1,))), ()), (0, 2, 1))

    def test_errors_in_their_order(self):
        self.assertRaises(BadProgram, ride, (4, (), ()), None, None, None)
        self.assertRaises(BadStanding, ride, SHOP, (2, 0, 0), None, None)
        for counts in NO_COUNTS:
            self.assertRaises(BadArgument, ride, SHOP, (0, 0, 0), None, counts)
        self.assertRaises(BadRoad, ride, SHOP, (0, 0, 0), None, ())


def drawn_road(rng, program, room, size):
    """Draw a road that mostly goes on where it came to."""
    ends = helper.sources_and_targets(program)
    parts = []
    for _ in range(rng.randrange(5)):
        word, at = (), room
        for _ in range(rng.randrange(4)):
            moves = [move for move, (source, _) in enumerate(ends) if source == at]
            if not moves:
                break
            word += (rng.choice(moves),)
            at = ends[word[-1]][1]
        if word and at == room and rng.random() < 0.8:
            parts.append(("ring", word, tuple(rng.randrange(3) for _ in range(1 + size))))
        else:
            parts.append(("walk", word))
            room = at if rng.random() < 0.9 else room
    return tuple(parts)


if __name__ == "__main__":
    unittest.main()
