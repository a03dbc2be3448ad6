"""Programs, their standings, and programs turned round."""

from twinpurse.errors import BadProgram, BadStanding
from twinpurse.kinds import is_between, is_count, is_tuple_of, is_tuple_up_to

MOST_ROOMS = 3
MOST_STEPS = 4
MOST_TESTS = 2
MOST_MOVED = 2


def check_program(program):
    """Return None for a program, and raise BadProgram for everything else."""
    if not is_program(program):
        raise BadProgram("this is not a program")


def check_standing(program, standing):
    """Return None for a standing of the program; raise BadProgram or BadStanding otherwise."""
    check_program(program)
    check_place(standing, program[0])


def check_place(standing, rooms):
    """Raise BadStanding for what is no standing in one of so many rooms."""
    if not is_place(standing, rooms):
        # No number stands in the words: Python refuses to write out very long ones.
        raise BadStanding("this is not a standing")


def turned(program):
    """Return the program whose steps and tests lead back."""
    check_program(program)
    rooms, steps, tests = program
    back = [(target, source, -first, -second) for source, target, first, second in steps]
    return (rooms, tuple(back), tuple([(target, source) for source, target in tests]))


def is_program(program):
    if not is_tuple_of(program, 3):
        return False
    rooms, steps, tests = program
    if not is_between(rooms, 1, MOST_ROOMS):
        return False
    if not is_tuple_up_to(steps, MOST_STEPS) or not is_tuple_up_to(tests, MOST_TESTS):
        return False
    return all(_is_step(step, rooms) for step in steps) and all(_is_test(test, rooms) for test in tests)


def _is_step(step, rooms):
    if not is_tuple_of(step, 4):
        return False
    return _are_rooms(step[:2], rooms) and all(
        is_between(number, -MOST_MOVED, MOST_MOVED) for number in step[2:]
    )


def _is_test(test, rooms):
    return is_tuple_of(test, 2) and _are_rooms(test, rooms)


def _are_rooms(places, rooms):
    return all(is_between(room, 0, rooms - 1) for room in places)


def is_place(standing, rooms):
    if not is_tuple_of(standing, 3):
        return False
    room, first, second = standing
    return is_between(room, 0, rooms - 1) and is_count(first) and is_count(second)
