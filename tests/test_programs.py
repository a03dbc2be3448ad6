"""Point 2 (programs and standings), and the first two sentences of point 13 (turned)."""

import copy
import itertools
import unittest

from tests import helper
from twinpurse.errors import BadProgram, BadStanding
from twinpurse.programs import check_program, check_standing, turned

FULL = (3, ((0, 1, -2, 2), (1, 2, 2, -2), (2, 2, 0, 0), (0, 0, 1, -1)), ((2, 0), (1, 1)))


class Programs(unittest.TestCase):
    def refused(self, program):
        with self.assertRaises(BadProgram, msg=program):
            check_program(program)
        with self.assertRaises(BadProgram, msg=program):
            turned(program)
        with self.assertRaises(BadProgram, msg=program):
            check_standing(program, (0, 0, 0))
        with self.assertRaises(BadProgram, msg=program):
            check_standing(program, None)

    def test_programs_are_taken(self):
        for program in helper.PROGRAMS + (FULL,):
            self.assertIsNone(check_program(program), program)

    def test_every_number_of_parts_is_taken(self):
        step, test = (0, 0, -2, 2), (0, 0)
        for rooms, steps, tests in itertools.product((1, 2, 3), range(5), range(3)):
            self.assertIsNone(check_program((rooms, (step,) * steps, (test,) * tests)))

    def test_every_room_and_every_number_is_taken(self):
        for rooms in (1, 2, 3):
            for source, target in itertools.product(range(rooms), repeat=2):
                self.assertIsNone(check_program((rooms, (), ((source, target),))))
                for first, second in itertools.product(range(-2, 3), repeat=2):
                    self.assertIsNone(check_program((rooms, ((source, target, first, second),), ())))

    def test_numbers_of_rooms(self):
        for rooms in (0, 4, -1, 10 ** 30):
            self.refused((rooms, (), ()))
            self.refused((rooms, ((0, 0, 0, 0),), ((0, 0),)))

    def test_too_many_steps_and_tests(self):
        self.refused((1, ((0, 0, 0, 0),) * 5, ()))
        self.refused((1, (), ((0, 0),) * 3))
        self.refused((1, ((0, 0, 0, 0),) * 5, ((0, 0),) * 3))

    def test_parts_too_many_or_too_few(self):
        paths = [()] + [(1, at) for at in range(4)] + [(2, at) for at in range(2)]
        for path in paths:
            for more in (0, ()):
                for spoilt in helper.spoilt_length(FULL, path, more):
                    self.refused(spoilt)

    def test_rooms_that_do_not_exist(self):
        for rooms in (1, 2, 3):
            for wrong in (-1, rooms, rooms + 1, -rooms, 10 ** 30):
                for end in (0, 1):
                    self.refused((rooms, (helper.put((0, 0, 1, 1), (end,), wrong),), ()))
                    self.refused((rooms, (), (helper.put((0, 0), (end,), wrong),)))

    def test_a_bad_part_is_found_at_each_place(self):
        for at in range(4):
            for end, wrong in ((0, -1), (0, 3), (1, -1), (1, 3), (2, -3), (2, 3), (3, -3), (3, 3)):
                self.refused(helper.put(FULL, (1, at, end), wrong))
        for at, end, wrong in itertools.product((0, 1), (0, 1), (-1, 3)):
            self.refused(helper.put(FULL, (2, at, end), wrong))

    def test_numbers_beyond_two(self):
        for purse, wrong in itertools.product((2, 3), (-3, 3, -10 ** 30, 10 ** 30)):
            self.refused((1, (helper.put((0, 0, 0, 0), (purse,), wrong),), ()))

    def test_other_kinds_at_each_place(self):
        for program in helper.PROGRAMS + (FULL,):
            for spoilt in helper.spoilt_kinds(program):
                self.refused(spoilt)

    def test_what_is_no_program_at_all(self):
        for wrong in helper.NO_PROGRAMS + helper.NOT_TUPLES:
            self.refused(wrong)

    def test_what_was_handed_in_stays(self):
        spoilt = [2, [[0, 1, 1, 1]], ((0, 0),)]
        kept = copy.deepcopy(spoilt)
        self.refused(spoilt)
        self.assertEqual(spoilt, kept)


class Standings(unittest.TestCase):
    def refused(self, program, standing):
        with self.assertRaises(BadStanding, msg=(program, standing)):
            check_standing(program, standing)

    def test_standings_are_taken(self):
        for rooms in (1, 2, 3):
            program = (rooms, (), ())
            for room in range(rooms):
                for first, second in itertools.product((0, 1, 5, 10 ** 30, 10 ** 5000), repeat=2):
                    self.assertIsNone(check_standing(program, (room, first, second)))

    def test_rooms_that_do_not_exist(self):
        for rooms in (1, 2, 3):
            for room in (-1, rooms, rooms + 1, 10 ** 30):
                self.refused((rooms, (), ()), (room, 0, 0))

    def test_purses_below_none(self):
        for wrong in (-1, -2, -10 ** 30, -10 ** 5000):
            self.refused(FULL, (0, wrong, 0))
            self.refused(FULL, (0, 0, wrong))

    def test_parts_too_many_or_too_few(self):
        for spoilt in helper.spoilt_length((1, 2, 3), (), 0):
            self.refused(FULL, spoilt)

    def test_other_kinds_at_each_place(self):
        for standing in ((0, 0, 0), (2, 1, 10 ** 30)):
            for spoilt in helper.spoilt_kinds(standing):
                self.refused(FULL, spoilt)

    def test_what_is_no_standing_at_all(self):
        for wrong in helper.NOT_TUPLES + ([0, 0, 0], "0 0 0"):
            self.refused(FULL, wrong)

    def test_the_program_is_looked_at_first(self):
        for program in helper.NO_PROGRAMS:
            for standing in ((0, 0, 0), (-1, 0, 0), None, [0, 0, 0]):
                with self.assertRaises(BadProgram):
                    check_standing(program, standing)

    def test_what_was_handed_in_stays(self):
        spoilt = [0, 1, 2]
        self.refused(FULL, spoilt)
        self.assertEqual(spoilt, [0, 1, 2])


class Turned(unittest.TestCase):
    def test_steps_and_tests_lead_back(self):
        self.assertEqual(
            turned(FULL),
            (3, ((1, 0, 2, -2), (2, 1, -2, 2), (2, 2, 0, 0), (0, 0, -1, 1)), ((0, 2), (1, 1))),
        )
        self.assertEqual(turned(helper.PAIR), (2, ((1, 0, -1, 2), (0, 1, 0, -2), (0, 0, 2, -1)), ((1, 1), (0, 1))))
        self.assertEqual(turned(helper.EMPTY), helper.EMPTY)

    def test_each_number_of_it_is_plain(self):
        for program in helper.PROGRAMS:
            back = turned(program)
            check_program(back)
            self.assertIs(type(back), tuple)
            self.assertIs(type(back[1]), tuple)
            self.assertIs(type(back[2]), tuple)

    def test_twice_gives_the_program_again(self):
        for program in helper.PROGRAMS + (FULL,):
            self.assertEqual(turned(turned(program)), program)

    def test_moves_of_it_undo_moves(self):
        for program in helper.PROGRAMS:
            back = turned(program)
            moves = range(len(program[1]) + len(program[2]))
            for standing in itertools.product(range(program[0]), range(5), range(5)):
                for move in moves:
                    led = helper.slow_make(program, standing, move)
                    if led is not None:
                        self.assertEqual(helper.slow_make(back, led, move), standing)


if __name__ == "__main__":
    unittest.main()
