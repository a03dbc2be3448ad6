"""Questions about standings, and of which standings of a lot they are so."""

from twinpurse.asked import fans_with, least_with
from twinpurse.errors import BadArgument
from twinpurse.fans import check_lot
from twinpurse.kinds import is_between, is_tuple_of
from twinpurse.lots import check_size
from twinpurse.programs import MOST_ROOMS, check_place
from twinpurse.settling import is_so

MOST_FORMS = 4
MOST_JOINTS = 6
MOST_FACTOR = 6
MOST_BOUND = 99
MOST_MODULUS = 6


def check_question(question):
    """Return None for a question, and raise BadArgument for everything else."""
    if not is_question(question):
        raise BadArgument("this is not a question")


def holds(question, standing):
    """Tell whether a question is so of a standing."""
    check_question(question)
    check_place(standing, MOST_ROOMS)
    return is_so(question, standing)


def answers(lot, question):
    """Return a lot with the standings of the lot of which the question is so."""
    _check_asked(lot, question)
    return fans_with(lot, question)


def every(lot, question):
    """Return None if the question is so of all standings of the lot, otherwise the least one of which it is not."""
    _check_asked(lot, question)
    return least_with(lot, ("not", question))


def _check_asked(lot, question):
    check_lot(lot)
    check_question(question)
    check_size([lot])


def is_question(value):
    # What is still to be looked at is kept in a list, so that no depth is too much.
    waiting = [value]
    forms = joints = 0
    while waiting:
        part = waiting.pop()
        inner = _questions_in(part)
        if inner:
            joints += 1
            waiting.extend(inner)
        elif _is_form(part):
            forms += 1
        else:
            return False
        if forms > MOST_FORMS or joints > MOST_JOINTS:
            return False
    return True


def _questions_in(value):
    """Return what stands in the places of questions in another one; the empty tuple for all else."""
    if is_tuple_of(value, 2) and _is_named(value, ("not",)):
        return value[1:]
    if is_tuple_of(value, 3) and _is_named(value, ("and", "or")):
        return value[1:]
    return ()


def _is_form(value):
    if is_tuple_of(value, 2) and _is_named(value, ("room",)):
        return is_between(value[1], 0, MOST_ROOMS - 1)
    if is_tuple_of(value, 4) and _is_named(value, ("most",)):
        return _are_factors(value[1:3]) and is_between(value[3], -MOST_BOUND, MOST_BOUND)
    if is_tuple_of(value, 5) and _is_named(value, ("rest",)):
        _, first, second, modulus, remainder = value
        return (_are_factors((first, second)) and is_between(modulus, 2, MOST_MODULUS)
                and is_between(remainder, 0, modulus - 1))
    return False


def _is_named(value, names):
    return isinstance(value[0], str) and value[0] in names


def _are_factors(numbers):
    return all([is_between(number, -MOST_FACTOR, MOST_FACTOR) for number in numbers])
