"""Moves and words: where they lead, what they put in, and what they need."""

from twinpurse.errors import BadArgument
from twinpurse.kinds import is_between
from twinpurse.programs import check_program, check_standing


def make(program, standing, move):
    """Return the standing to which the move leads, or None if it cannot be made there."""
    check_standing(program, standing)
    moves = moves_of(program)
    if not is_between(move, 0, len(moves) - 1):
        raise BadArgument("there is no such move")
    return led_by(moves[move], standing)


def play(program, standing, word):
    """Return the standing to which the word leads, or None if it cannot be made there."""
    check_standing(program, standing)
    moves = moves_in(program, word)
    if not moves:
        return standing
    room, first, second = standing
    if moves[0][0] != room or not is_joined(moves):
        return None
    # The need is found with small numbers alone, so that very great purses
    # are looked at once, and not at each move.
    if not is_met(need_along(moves), first, second):
        return None
    more_first, more_second = effect_along(moves)
    return (moves[-1][1], first + more_first, second + more_second)


def able(program, standing):
    """Return the ascending list of the moves that can be made in the standing."""
    check_standing(program, standing)
    return [move for move, told in enumerate(moves_of(program)) if led_by(told, standing) is not None]


def effect(program, word):
    """Return the pair of what the word puts into the purses."""
    check_program(program)
    return effect_along(moves_in(program, word))


def is_walk(program, word):
    """Tell whether each move of the word goes on where the one before it led to."""
    check_program(program)
    return is_joined(moves_in(program, word))


def is_ring(program, word):
    """Tell whether the word is a walk of some moves that ends where it begins."""
    check_program(program)
    moves = moves_in(program, word)
    return bool(moves) and is_joined(moves) and moves[0][0] == moves[-1][1]


def need(program, word):
    """Return what must be in the purses for a walk, as (a, b, exact), or None if nothing will do."""
    check_program(program)
    moves = moves_in(program, word)
    if not is_joined(moves):
        raise BadArgument("the word is not a walk")
    return need_along(moves)


def moves_of(program):
    """Return the list of all moves, each as (source, target, first, second, whether it is a test)."""
    _, steps, tests = program
    return [(*step, False) for step in steps] + [(*test, 0, 0, True) for test in tests]


def is_word(program, word):
    """Tell whether the word is a tuple of moves that exist in the program."""
    last = len(program[1]) + len(program[2]) - 1
    return isinstance(word, tuple) and all(is_between(move, 0, last) for move in word)


def moves_in(program, word):
    """Return the moves of a word as moves_of tells them; raise BadArgument for what is no word."""
    if not is_word(program, word):
        raise BadArgument("this is not a word of the program")
    moves = moves_of(program)
    return [moves[move] for move in word]


def led_by(told, standing):
    """Return the standing to which a move of moves_of leads, or None if it cannot be made."""
    source, target, more_first, more_second, is_test = told
    room, first, second = standing
    if room != source or (is_test and first != 0):
        return None
    first += more_first
    second += more_second
    if first < 0 or second < 0:
        return None
    return (target, first, second)


def is_joined(moves):
    """Tell whether moves of moves_of make a walk, one after the other."""
    return all([before[1] == after[0] for before, after in zip(moves, moves[1:])])


def effect_along(moves):
    """Return the pair of what moves of moves_of put into the purses."""
    return (sum([told[2] for told in moves]), sum([told[3] for told in moves]))


def need_along(moves):
    """Return the need of a walk, given by moves of moves_of."""
    first = second = least_first = least_second = 0
    exact = None
    for told in moves:
        if told[4]:
            # The test finds 0 only if just this was in the first purse at first.
            if exact is not None and exact != -first:
                return None
            exact = -first
        first += told[2]
        second += told[3]
        least_first = max(least_first, -first)
        least_second = max(least_second, -second)
    if exact is None:
        return (least_first, least_second, False)
    return (exact, least_second, True) if exact >= least_first else None


def is_met(needed, first, second):
    """Tell whether a walk with this need can be made with these purses."""
    if needed is None:
        return False
    least_first, least_second, exact = needed
    if exact and first != least_first:
        return False
    return first >= least_first and second >= least_second
