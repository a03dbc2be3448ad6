"""Point 3 (moves, words, runs) and point 4 (walks, rings, effects, needs)."""

import itertools
import random
import unittest

from tests import helper
from twinpurse.errors import BadArgument, BadProgram, BadStanding
from twinpurse.programs import turned
from twinpurse.runs import able, effect, is_ring, is_walk, make, need, play

GREAT = 10 ** 30
NO_STANDINGS = (None, [0, 0, 0], (0, 0), (0, 0, 0, 0), (3, 0, 0), (-1, 0, 0), (0, -1, 0), (0, 0, -1), (0, True, 0))
NO_MOVES = (-1, 5, 100, GREAT, True, False, None)
# PAIR has the moves 0 to 4.
NO_WORDS = tuple([(move,) for move in NO_MOVES]) + (
    (0, -1), (0, True), (True, 0), (4, 4, 5), (0, "1"), (0, None), (0, (1,)), (0, 1.0),
    [], [0], [0, 1], None, "", "0", 0, True, {}, {0: 1}, {0},
)


def purses(most):
    return itertools.product(range(most + 1), repeat=2)


class Make(unittest.TestCase):
    def test_each_move_of_each_program(self):
        for program in helper.PROGRAMS:
            moves = range(len(program[1]) + len(program[2]))
            for standing in itertools.product(range(program[0]), range(5), range(5)):
                for move in moves:
                    self.assertEqual(
                        make(program, standing, move), helper.slow_make(program, standing, move),
                        (program, standing, move),
                    )

    def test_steps(self):
        self.assertEqual(make(helper.PAIR, (0, 3, 5), 0), (1, 4, 3))
        self.assertEqual(make(helper.PAIR, (1, 0, 0), 1), (0, 0, 2))
        self.assertEqual(make(helper.PAIR, (0, 2, 0), 2), (0, 0, 1))
        self.assertEqual(make(helper.PAIR, (0, 0, 2), 0), (1, 1, 0))

    def test_a_purse_would_come_below_none(self):
        self.assertIsNone(make(helper.PAIR, (0, 9, 1), 0))
        self.assertIsNone(make(helper.PAIR, (0, 9, 0), 0))
        self.assertIsNone(make(helper.PAIR, (0, 1, 9), 2))
        self.assertIsNone(make(helper.PAIR, (0, 0, 9), 2))
        self.assertIsNone(make(helper.STEPS_ALONE, (0, 1, 1), 0))

    def test_tests(self):
        self.assertEqual(make(helper.PAIR, (1, 0, 7), 3), (1, 0, 7))
        self.assertEqual(make(helper.PAIR, (1, 0, 7), 4), (0, 0, 7))
        self.assertEqual(make(helper.PAIR, (1, 0, 0), 4), (0, 0, 0))
        for first in (1, 2, GREAT):
            self.assertIsNone(make(helper.PAIR, (1, first, 7), 3))
            self.assertIsNone(make(helper.PAIR, (1, first, 0), 4))

    def test_outside_of_the_source(self):
        self.assertIsNone(make(helper.PAIR, (1, 9, 9), 0))
        self.assertIsNone(make(helper.PAIR, (0, 9, 9), 1))
        self.assertIsNone(make(helper.PAIR, (0, 0, 9), 3))
        self.assertIsNone(make(helper.PAIR, (0, 0, 9), 4))

    def test_great_purses(self):
        for great in (GREAT, 10 ** 6000):
            self.assertEqual(make(helper.PAIR, (0, great, great + 1), 0), (1, great + 1, great - 1))
            self.assertEqual(make(helper.PAIR, (1, 0, great), 3), (1, 0, great))

    def test_moves_that_do_not_exist(self):
        for move in NO_MOVES + ("0", (0,), [0], 0.0):
            with self.assertRaises(BadArgument, msg=move):
                make(helper.PAIR, (0, 3, 3), move)
        with self.assertRaises(BadArgument):
            make(helper.EMPTY, (0, 0, 0), 0)
        for program in helper.PROGRAMS:
            with self.assertRaises(BadArgument):
                make(program, (0, 0, 0), len(program[1]) + len(program[2]))


class Play(unittest.TestCase):
    def test_the_empty_word(self):
        for program in helper.PROGRAMS:
            for standing in ((0, 0, 0), (program[0] - 1, 3, GREAT)):
                self.assertEqual(play(program, standing, ()), standing)

    def test_all_short_words(self):
        for program in helper.PROGRAMS:
            for word in helper.words_up_to(program, 3):
                for standing in itertools.product(range(program[0]), range(4), range(4)):
                    self.assertEqual(
                        play(program, standing, word), helper.slow_play(program, standing, word),
                        (program, standing, word),
                    )

    def test_chosen_words(self):
        self.assertEqual(play(helper.PAIR, (0, 3, 2), (0, 1)), (0, 4, 2))
        self.assertEqual(play(helper.PAIR, (0, 2, 2), (2, 0)), (1, 1, 1))
        self.assertIsNone(play(helper.PAIR, (0, 2, 0), (2, 0)))
        self.assertIsNone(play(helper.PAIR, (1, 2, 2), (2, 0)))
        self.assertEqual(play(helper.PAIR, (0, 2, 1), (2, 0, 1)), (0, 1, 2))
        self.assertEqual(play(helper.PAIR, (0, 4, 0), (2, 2, 0, 1)), (0, 1, 2))
        self.assertEqual(play(helper.COUNTER, (0, 1, 0), (1, 3, 3, 2, 1)), (0, 1, 2))
        self.assertIsNone(play(helper.COUNTER, (0, 2, 0), (1, 3, 3, 2, 1)))

    def test_random_runs(self):
        chance = random.Random(3)
        for program in (helper.COUNTER, helper.PAIR, helper.TRIANGLE):
            for _ in range(200):
                begin = (chance.randrange(program[0]), chance.randrange(6), chance.randrange(9))
                standing, word = begin, []
                while len(word) < 60 and able(program, standing):
                    word.append(chance.choice(able(program, standing)))
                    standing = make(program, standing, word[-1])
                self.assertEqual(play(program, begin, tuple(word)), standing)
                others = [chance.randrange(len(program[1]) + len(program[2])) for _ in range(3)]
                longer = tuple(word + others)
                self.assertEqual(play(program, begin, longer), helper.slow_play(program, begin, longer))

    def test_long_words(self):
        for many in (1000, 5000, 100000):
            self.assertEqual(play(helper.COUNTER, (0, 0, 0), (0, 1) * many), (0, 0, 2 * many))
            self.assertEqual(play(helper.COUNTER, (0, many, 0), (1,) * many + (3,) * many), (0, 0, 2 * many))
            self.assertIsNone(play(helper.COUNTER, (0, many - 1, 0), (1,) * many))
            self.assertIsNone(play(helper.COUNTER, (0, many + 1, 0), (1,) * many + (3,)))

    def test_great_purses(self):
        for great in (GREAT, 10 ** 6000, 1 << 10 ** 6):
            word = (1,) * 5000
            self.assertEqual(play(helper.COUNTER, (0, great, great), word), (0, great - 5000, great + 10000))
            self.assertIsNone(play(helper.COUNTER, (0, great, great), word + (3,)))

    def test_what_is_no_word(self):
        for word in NO_WORDS:
            for standing in ((0, 3, 3), (1, 0, 0)):
                with self.assertRaises(BadArgument, msg=word):
                    play(helper.PAIR, standing, word)
        with self.assertRaises(BadArgument):
            play(helper.EMPTY, (0, 0, 0), (0,))

    def test_a_wrong_move_behind_one_that_cannot_be_made(self):
        for move in NO_MOVES:
            for ahead in ((2,), (1,), (3,), (1, 3, 0)):
                with self.assertRaises(BadArgument, msg=move):
                    play(helper.PAIR, (0, 0, 0), ahead + (move,))


class Able(unittest.TestCase):
    def test_all_standings(self):
        for program in helper.PROGRAMS:
            for standing in itertools.product(range(program[0]), range(4), range(4)):
                moves = able(program, standing)
                self.assertIs(type(moves), list)
                self.assertEqual(moves, [
                    move for move in range(len(program[1]) + len(program[2]))
                    if helper.slow_make(program, standing, move) is not None
                ])

    def test_chosen_standings(self):
        self.assertEqual(able(helper.EMPTY, (0, 5, 5)), [])
        self.assertEqual(able(helper.COUNTER, (0, 0, 2)), [0, 2, 3])
        self.assertEqual(able(helper.COUNTER, (0, GREAT, GREAT)), [0, 1, 2])
        self.assertEqual(able(helper.PAIR, (1, 0, 0)), [1, 3, 4])

    def test_a_new_list_each_time(self):
        moves = able(helper.COUNTER, (0, 0, 2))
        moves.append(99)
        self.assertEqual(able(helper.COUNTER, (0, 0, 2)), [0, 2, 3])


class Walks(unittest.TestCase):
    def test_all_short_words(self):
        for program in helper.PROGRAMS:
            ends = helper.sources_and_targets(program)
            for word in helper.words_up_to(program, 4):
                walk = helper.slow_is_walk(program, word)
                ring = walk and word != () and ends[word[0]][0] == ends[word[-1]][1]
                self.assertIs(is_walk(program, word), walk, (program, word))
                self.assertIs(is_ring(program, word), ring, (program, word))

    def test_chosen_words(self):
        self.assertIs(is_walk(helper.PAIR, (0, 1, 0, 3, 4)), True)
        self.assertIs(is_walk(helper.PAIR, (0, 0)), False)
        self.assertIs(is_walk(helper.PAIR, (0, 1, 0, 2)), False)
        self.assertIs(is_ring(helper.PAIR, (0, 1)), True)
        self.assertIs(is_ring(helper.PAIR, (3,)), True)
        self.assertIs(is_ring(helper.PAIR, (0,)), False)
        self.assertIs(is_ring(helper.PAIR, (0, 0, 1)), False)
        self.assertIs(is_ring(helper.PAIR, (0, 3, 1, 2)), True)

    def test_the_empty_word(self):
        for program in helper.PROGRAMS:
            self.assertIs(is_walk(program, ()), True)
            self.assertIs(is_ring(program, ()), False)
            self.assertEqual(effect(program, ()), (0, 0))
            self.assertEqual(need(program, ()), (0, 0, False))
            self.assertIs(need(program, ())[2], False)

    def test_long_words(self):
        many = 50000
        self.assertIs(is_walk(helper.PAIR, (0, 1) * many), True)
        self.assertIs(is_walk(helper.PAIR, (0, 1) * many + (1,)), False)
        self.assertIs(is_ring(helper.PAIR, (0, 1) * many), True)
        self.assertIs(is_ring(helper.PAIR, (0, 1) * many + (0,)), False)
        self.assertEqual(effect(helper.PAIR, (0, 1) * many), (many, 0))
        self.assertEqual(need(helper.PAIR, (0, 1) * many), (0, 2, False))
        self.assertEqual(need(helper.COUNTER, (1,) * many), (many, 0, False))
        self.assertEqual(need(helper.COUNTER, (1,) * many + (3,) * many), (many, 0, True))


class Effects(unittest.TestCase):
    def test_each_move_alone(self):
        for program in helper.PROGRAMS:
            for move, step in enumerate(program[1]):
                self.assertEqual(effect(program, (move,)), step[2:])
            for at in range(len(program[2])):
                self.assertEqual(effect(program, (len(program[1]) + at,)), (0, 0))

    def test_sums_also_of_words_that_are_no_walks(self):
        for program in helper.PROGRAMS:
            numbers = [step[2:] for step in program[1]] + [(0, 0)] * len(program[2])
            for word in helper.words_up_to(program, 3):
                self.assertEqual(
                    effect(program, word),
                    (sum(numbers[move][0] for move in word), sum(numbers[move][1] for move in word)),
                )
        self.assertEqual(effect(helper.PAIR, (0, 0, 0, 3, 2)), (1, -5))

    def test_it_is_what_a_run_changes(self):
        word = (2, 0, 3, 1, 2)
        self.assertEqual(effect(helper.COUNTER, word[:2]), (3, -2))
        self.assertEqual(effect(turned(helper.COUNTER), (2, 0)), (-3, 2))


class Needs(unittest.TestCase):
    def check_against_runs(self, program, word, most):
        """Compare the need of a walk with all purses up to a bound, beyond which nothing new comes."""
        room = helper.sources_and_targets(program)[word[0]][0] if word else 0
        made = [
            (a, b) for a, b in purses(most) if helper.slow_play(program, (room, a, b), word) is not None
        ]
        told = need(program, word)
        if told is None:
            self.assertEqual(made, [], (program, word))
            return
        first, second, exact = told
        has_test = any(move >= len(program[1]) for move in word)
        self.assertIs(exact, has_test, (program, word))
        fits = [
            (a, b) for a, b in purses(most) if (a == first if exact else a >= first) and b >= second
        ]
        self.assertEqual(made, fits, (program, word))
        self.assertNotEqual(made, [], (program, word))

    def test_all_short_walks(self):
        for program in helper.PROGRAMS:
            for word in helper.words_up_to(program, 4):
                if helper.slow_is_walk(program, word):
                    self.check_against_runs(program, word, 9)

    def test_longer_walks(self):
        chance = random.Random(11)
        for program in (helper.COUNTER, helper.PAIR, helper.TRIANGLE):
            ends = helper.sources_and_targets(program)
            for _ in range(60):
                word = [chance.randrange(len(ends))]
                while len(word) < 8:
                    word.append(chance.choice(
                        [move for move, end in enumerate(ends) if end[0] == ends[word[-1]][1]]
                    ))
                self.check_against_runs(program, tuple(word), 17)

    def test_without_a_test(self):
        self.assertEqual(need(helper.PAIR, (0,)), (0, 2, False))
        self.assertEqual(need(helper.PAIR, (2, 2)), (4, 0, False))
        self.assertEqual(need(helper.PAIR, (2, 0, 1, 0)), (2, 1, False))
        self.assertEqual(need(helper.STEPS_ALONE, (1, 2, 0)), (0, 0, False))

    def test_a_test_first_last_and_in_between(self):
        self.assertEqual(need(helper.COUNTER, (3,)), (0, 0, True))
        self.assertEqual(need(helper.COUNTER, (3, 0, 1)), (0, 0, True))
        self.assertEqual(need(helper.COUNTER, (3, 2)), (0, 2, True))
        self.assertEqual(need(helper.COUNTER, (1, 1, 3)), (2, 0, True))
        self.assertEqual(need(helper.COUNTER, (0, 1, 1, 3)), (1, 0, True))
        self.assertEqual(need(helper.COUNTER, (1, 3, 2)), (1, 0, True))
        self.assertEqual(need(helper.COUNTER, (1, 3, 2, 2)), (1, 2, True))

    def test_several_tests(self):
        self.assertEqual(need(helper.COUNTER, (3, 3, 3)), (0, 0, True))
        self.assertEqual(need(helper.COUNTER, (1, 3, 0, 1, 3)), (1, 0, True))
        self.assertIsNone(need(helper.COUNTER, (3, 0, 3)))
        self.assertIsNone(need(helper.COUNTER, (3, 0, 1, 3, 0, 3)))
        self.assertIsNone(need(helper.COUNTER, (1, 3, 1, 3)))

    def test_a_need_of_none(self):
        # More is in the first purse at the test than the test allows, or too little behind it.
        self.assertIsNone(need(helper.COUNTER, (0, 3)))
        self.assertIsNone(need(helper.COUNTER, (3, 1)))
        self.assertIsNone(need(helper.COUNTER, (1, 3, 0, 1, 1)))
        self.assertIsNone(need(helper.COUNTER, (2, 1, 3)))

    def test_made_with_it_and_not_with_less(self):
        many = 300
        program = (1, ((0, 0, -2, -1), (0, 0, 1, 0), (0, 0, 2, -2)), ((0, 0),))
        for word in ((0,) * many, (1, 0, 2) * many, (0,) * many + (3,), (0, 3) + (1, 2) * many):
            first, second, exact = need(program, word)
            self.assertIsNotNone(play(program, (0, first, second), word))
            self.assertIsNotNone(play(program, (0, first, second + GREAT), word))
            if first > 0:
                self.assertIsNone(play(program, (0, first - 1, second), word))
            self.assertGreater(second, 0)
            self.assertIsNone(play(program, (0, first, second - 1), word))
            self.assertEqual(play(program, (0, first + 1, second), word) is None, exact)

    def test_what_is_not_a_walk(self):
        for program in helper.PROGRAMS:
            for word in helper.words_up_to(program, 3):
                if not helper.slow_is_walk(program, word):
                    with self.assertRaises(BadArgument, msg=(program, word)):
                        need(program, word)


class Wrong(unittest.TestCase):
    def test_what_is_no_word(self):
        for called in (effect, is_walk, is_ring, need):
            for word in NO_WORDS:
                with self.assertRaises(BadArgument, msg=(called, word)):
                    called(helper.PAIR, word)
            with self.assertRaises(BadArgument):
                called(helper.EMPTY, (0,))

    def test_programs_come_first(self):
        for program in helper.NO_PROGRAMS:
            for called in (effect, is_walk, is_ring, need):
                for word in ((), (-1,), None, [0]):
                    with self.assertRaises(BadProgram):
                        called(program, word)
            for standing in ((0, 0, 0),) + NO_STANDINGS:
                for called, last in ((make, 0), (make, -1), (play, ()), (play, [0])):
                    with self.assertRaises(BadProgram):
                        called(program, standing, last)
                with self.assertRaises(BadProgram):
                    able(program, standing)

    def test_then_standings(self):
        for standing in NO_STANDINGS:
            for called, last in ((make, 0), (make, -1), (make, True), (play, ()), (play, (9,)), (play, None)):
                with self.assertRaises(BadStanding):
                    called(helper.PAIR, standing, last)
            with self.assertRaises(BadStanding):
                able(helper.PAIR, standing)

    def test_a_room_of_another_program_is_none(self):
        for called in (lambda: make(helper.PAIR, (2, 0, 0), 0), lambda: play(helper.PAIR, (2, 0, 0), ()),
                       lambda: able(helper.PAIR, (2, 0, 0))):
            with self.assertRaises(BadStanding):
                called()


if __name__ == "__main__":
    unittest.main()
