"""What stands behind the search: fans cut in pieces, shelves, covers, and what is kept."""

import itertools
import random
import unittest

from tests import helper
from twinpurse.covers import cover
from twinpurse.fans import counts_of, has, standing_at
from twinpurse.papers import lot_of, table_of
from twinpurse.parts import parts_inside, parts_outside
from twinpurse.pieces import divide, leaves_of, place_in
from twinpurse.search import Search
from twinpurse.shelves import Shelf

MOST = 30


def drawn_fan(rng, largest=4):
    while True:
        rays = tuple((rng.randint(0, largest), rng.randint(0, largest)) for _ in range(rng.choice((0, 1, 2, 2))))
        single = all(ray != (0, 0) for ray in rays)
        if single and (len(rays) < 2 or rays[0][0] * rays[1][1] != rays[0][1] * rays[1][0]):
            return (0, (rng.randint(0, 6), rng.randint(0, 6)), rays)


class Pieces(unittest.TestCase):
    def test_leaves_are_in_or_out(self):
        rng = random.Random(1)
        for _ in range(400):
            fan, other = drawn_fan(rng), drawn_fan(rng)
            leaves = leaves_of(divide(fan, other))
            there = helper.seen([other], MOST)
            told = {name: [leaf[1] for leaf in leaves if leaf[0] == name] for name in ("in", "out")}
            here = {name: helper.seen(told[name], MOST) for name in told}
            self.assertEqual(here["in"], helper.seen([fan], MOST) & there)
            self.assertEqual(here["out"], helper.seen([fan], MOST) - there)
            # No standing is in two leaves.
            self.assertEqual(sum(len(helper.seen([piece], MOST)) for piece in told["in"] + told["out"]),
                             len(helper.seen([fan], MOST)))
            for piece in told["in"]:
                self.assertIsNotNone(place_in(piece, other))

    def test_place_in(self):
        rng = random.Random(2)
        for _ in range(400):
            fan, other = drawn_fan(rng, 3), drawn_fan(rng, 2)
            place = place_in(fan, other)
            inside = helper.seen([fan], MOST) <= helper.seen([other], MOST)
            if place is None:
                continue
            self.assertTrue(inside)
            for counts in itertools.product(range(4), repeat=len(fan[2])):
                own = tuple(
                    begin + sum(count * row[at] for count, row in zip(counts, place[1]))
                    for at, begin in enumerate(place[0])
                )
                self.assertEqual(standing_at(other, own), standing_at(fan, counts))

    def test_parts_of_great_fans(self):
        wide, far = (0, (0, 0), ((5, 1), (1, 4))), (0, (20, 30), ((7, 0), (0, 11)))
        outside, inside = parts_outside([far], [wide]), parts_inside([far], [wide])
        for counts in ((0, 0), (1, 0), (5, 8), (10 ** 6, 0), (0, 10 ** 6), (10 ** 9, 10 ** 7), (123456, 654321)):
            standing = standing_at(far, counts)
            wanted = counts_of(wide, standing) is not None
            self.assertEqual((has(inside, standing), has(outside, standing)), (wanted, not wanted))


class Covers(unittest.TestCase):
    def test_exactly_what_is_covered(self):
        rng = random.Random(3)
        seen = {True: 0, False: 0}
        for _ in range(600):
            fan = drawn_fan(rng, 3)
            fans = [drawn_fan(rng, 2) for _ in range(rng.randint(1, 6))]
            if rng.random() < 0.5:
                # Pieces of the fan, put back together, cover it; without one of them they mostly do not.
                fans = [leaf[1] for leaf in leaves_of(divide(fan, fans[0]))]
                if rng.random() < 0.5:
                    fans.remove(rng.choice(fans))
            covered = cover(fan, Shelf(fans), 10 ** 6) is not None
            self.assertEqual(covered, parts_outside([fan], fans) == [])
            seen[covered] += 1
        self.assertGreater(min(seen.values()), 100)

    def test_shelves(self):
        rng = random.Random(4)
        for _ in range(100):
            fans = list({drawn_fan(rng): True for _ in range(6)})
            shelf = Shelf(fans)
            for point in itertools.product(range(9), repeat=2):
                self.assertEqual(shelf.has(point), has(fans, (0, *point)))
            for number, fan in enumerate(fans):
                shelf.take_out(number)
                rest = fans[:number] + fans[number + 1:]
                self.assertEqual(shelf.has(fan[1]), has(rest, (0, *fan[1])))
                shelf.put_back(number)
                self.assertTrue(shelf.has(fan[1]))


class Searches(unittest.TestCase):
    def test_what_is_kept_although_it_is_covered(self):
        for program, start in [(helper.COUNTER, (0, 1, 2)), *helper.drawn_cases(22, 30)]:
            search = Search(program)
            search.start(start)
            search.run()
            search.start(start)
            search.keep_waiting()
            search.run()
            founds = lot_of(search.founds, program[0], 50)
            self.assertEqual(table_of(search.moves, [found.fan for found in founds], 20000)[1], [])
            self.assertTrue(has([found.fan for found in founds], start))

    def test_gaps_are_told(self):
        program = (2, ((0, 0, 1, 0), (0, 1, 0, 1)), ())
        self.assertEqual(table_of(Search(program).moves, [(0, (0, 0), ((1, 0),))], 100)[1], [(0, 1)])
        self.assertEqual(table_of(Search(program).moves, [(0, (0, 0), ())], 100)[1], [(0, 0), (0, 1)])


if __name__ == "__main__":
    unittest.main()
