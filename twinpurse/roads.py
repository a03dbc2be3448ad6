"""Roads: when they are right, which word they tell, and where they lead."""

from twinpurse.errors import BadArgument, BadRoad, TooLarge
from twinpurse.fans import check_fan
from twinpurse.kinds import are_counts, is_tuple_of, is_tuple_up_to
from twinpurse.programs import check_program, check_standing
from twinpurse.runs import effect_along, is_joined, is_word, moves_in, need_along
from twinpurse.sums import added, is_just, is_least, raised, value_at

MOST_MOVES = 100000
MOST_COUNTS = 2


def is_road(program, start, fan, road):
    """Tell whether a road is right for a program, a start and a fan."""
    check_program(program)
    check_standing(program, start)
    check_fan(fan)
    room, base, rays = fan
    if not is_road_of(program, road, len(rays)):
        return False
    more = tuple([0 for _ in rays])
    come = (start[0], (start[1], *more), (start[2], *more))
    for part in road:
        come = _come_behind(program, come, part)
        if come is None:
            return False
    return come == (room, (base[0], *[ray[0] for ray in rays]), (base[1], *[ray[1] for ray in rays]))


def spell(road, counts):
    """Return the word that a road tells for counts."""
    _check_counts(counts)
    if not _has_form(road, len(counts)):
        raise BadRoad("this is not a road for so many counts")
    parts = [(part[1], times_of(part, counts)) for part in road]
    if sum([len(word) * times for word, times in parts]) > MOST_MOVES:
        raise TooLarge("the word has too many moves")
    return tuple([move for word, times in parts if word for _ in range(times) for move in word])


def ride(program, start, road, counts):
    """Return the standing to which a road leads from a start for counts of any size."""
    check_program(program)
    check_standing(program, start)
    _check_counts(counts)
    if not is_road_of(program, road, len(counts)):
        raise BadRoad("this is not a road of the program for so many counts")
    led = led_along(program, start, road, counts)
    if led is None:
        raise BadRoad("the road cannot be made here")
    return led


def led_along(program, start, road, counts):
    """Return the standing to which a road of the program leads, or None if it cannot be made."""
    come = (start[0], (start[1],), (start[2],))
    for part in road:
        times = times_of(part, counts)
        come = _come_behind(program, come, part if part[0] == "walk" else ("ring", part[1], (times,)))
        if come is None:
            return None
    return (come[0], come[1][0], come[2][0])


def times_of(part, counts):
    """Return how many times the word of a part is taken."""
    return 1 if part[0] == "walk" else value_at(part[2], counts)


def is_road_of(program, road, size):
    """Whether this is a road for so many counts, with words and rings of the program."""
    return _has_form(road, size) and all([_is_part_of(program, part) for part in road])


def _check_counts(counts):
    if not is_tuple_up_to(counts, MOST_COUNTS) or not are_counts(counts, len(counts)):
        raise BadArgument("these are no counts")


def _has_form(road, size):
    """Whether this has the form of a road for so many counts, with words of any integers from 0 on."""
    return isinstance(road, tuple) and all([_is_part(part, size) for part in road])


def _is_part(part, size):
    if is_tuple_of(part, 2):
        return _is_named(part, "walk") and _is_spelt(part[1])
    if not is_tuple_of(part, 3) or not _is_named(part, "ring"):
        return False
    return _is_spelt(part[1]) and len(part[1]) > 0 and are_counts(part[2], 1 + size)


def _is_named(part, name):
    return isinstance(part[0], str) and part[0] == name


def _is_spelt(word):
    return isinstance(word, tuple) and are_counts(word, len(word))


def _is_part_of(program, part):
    if not is_word(program, part[1]):
        return False
    moves = moves_in(program, part[1])
    if not is_joined(moves):
        return False
    return part[0] == "walk" or moves[0][0] == moves[-1][1]


def _come_behind(program, come, part):
    """Return the room and the sums of both purses behind a part, or None if it cannot be made for all counts."""
    room, first, second = come
    moves = moves_in(program, part[1])
    if not moves or part[0] == "ring" and not any(part[2]):
        return come
    needed = need_along(moves)
    if moves[0][0] != room or needed is None:
        return None
    more_first, more_second = effect_along(moves)
    rounds = (1, *[0 for _ in first[1:]]) if part[0] == "walk" else part[2]
    if not _can_be_taken(first, second, rounds, needed, (more_first, more_second)):
        return None
    return (moves[-1][1], added(first, rounds, more_first), added(second, rounds, more_second))


def _can_be_taken(first, second, rounds, needed, effect):
    """Whether a walk can be made so many times for all counts with which it is made at least once."""
    if rounds[0] > 0:
        return _is_met_at_ends(first, second, rounds, needed, effect)
    raising = [index for index, multiple in enumerate(rounds) if index > 0 and multiple > 0]
    return all([
        _is_met_at_ends(raised(first, index), raised(second, index), raised(rounds, index), needed, effect)
        for index in raising
    ])


def _is_met_at_ends(first, second, rounds, needed, effect):
    # What holds ahead of the first time and ahead of the last one holds at all times between them.
    again = (rounds[0] - 1, *rounds[1:])
    last_first, last_second = added(first, again, effect[0]), added(second, again, effect[1])
    least_first, least_second, exact = needed
    if not is_least(second, least_second) or not is_least(last_second, least_second):
        return False
    if exact:
        return is_just(first, least_first) and is_just(last_first, least_first)
    return is_least(first, least_first) and is_least(last_first, least_first)
