"""What is so of all standings that a start reaches, and of all runs from it."""

from twinpurse.findings import greatest_in, lasso_in, stuck_in
from twinpurse.gaps import least_apart, least_outside
from twinpurse.kinds import is_tuple_of
from twinpurse.programs import check_program, check_standing, is_place
from twinpurse.reach import check_start, paper_parts, reach, sources
from twinpurse.roads import is_road, is_road_of, led_along, times_of
from twinpurse.runs import moves_in


def stuck(program, start):
    """Return the least standing that the start reaches and in which no move can be made, or None."""
    return stuck_in(program, reach(program, start)[0])


def greatest(program, start):
    """Return for each purse the greatest number in it in a standing that the start reaches, or None."""
    return greatest_in(reach(program, start)[0])


def home(program, start):
    """Return None if all that the start reaches reaches the start, otherwise the least standing that does not."""
    return least_outside(reach(program, start)[0], sources(program, start))


def differ(program, start, other, other_start):
    """Return None if both starts reach the same standings, otherwise the least one that only one of them reaches."""
    check_program(program)
    check_program(other)
    check_standing(program, start)
    check_standing(other, other_start)
    check_start(program, start)
    check_start(other, other_start)
    return least_apart(reach(program, start)[0], reach(other, other_start)[0])


def endless(program, start):
    """Return a lasso, or None if the runs from the start have a greatest length."""
    check_start(program, start)
    return lasso_in(program, paper_parts(program, start)[0])


def is_lasso(program, start, lasso):
    """Tell whether this is a lasso of the program and the start."""
    check_program(program)
    check_standing(program, start)
    if not is_tuple_of(lasso, 3):
        return False
    road, standing, loop = lasso
    if not is_place(standing, program[0]) or not is_road(program, start, (standing[0], standing[1:], ()), road):
        return False
    if not is_road_of(program, loop, 0):
        return False
    words = [part[1] for part in loop if times_of(part, ()) > 0]
    moves = [told for word in words for told in moves_in(program, word)]
    led = led_along(program, standing, loop, ())
    if not moves or led is None or led[0] != standing[0] or led[2] < standing[2]:
        return False
    return led[1] == standing[1] if any([told[4] for told in moves]) else led[1] >= standing[1]
