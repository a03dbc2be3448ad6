"""What the tests share: ways to spoil a value, and moves made slowly, straight from the document."""

import itertools

NOT_INTEGERS = (True, False, None, "0", "", (0,), [0], {}, 1.0)
NOT_TUPLES = (None, True, False, 0, 1, "", "text", {}, set(), b"ab")


def places(value, wanted, path=()):
    """Yield the paths to all parts of a nested tuple or list that are of the wanted class."""
    if type(value) is wanted:
        yield path
    if isinstance(value, (tuple, list)):
        for at, part in enumerate(value):
            yield from places(part, wanted, path + (at,))


def part_at(value, path):
    for at in path:
        value = value[at]
    return value


def put(value, path, new):
    """Return the value with the part at the path replaced."""
    if not path:
        return new
    parts = list(value)
    parts[path[0]] = put(parts[path[0]], path[1:], new)
    return type(value)(parts)


def spoilt_kinds(value):
    """Yield the value with one part at a time replaced by one of another kind."""
    for path in places(value, int):
        for wrong in NOT_INTEGERS:
            yield put(value, path, wrong)
    for path in places(value, tuple):
        yield put(value, path, list(part_at(value, path)))
        for wrong in NOT_TUPLES:
            yield put(value, path, wrong)


def spoilt_length(value, path, more):
    """Yield the value with a part too few at either end of a tuple, and with one too many."""
    parts = part_at(value, path)
    yield put(value, path, parts[1:])
    yield put(value, path, parts[:-1])
    yield put(value, path, parts + (more,))
    yield put(value, path, (more,) + parts)
    yield put(value, path, ())


def sources_and_targets(program):
    return [step[:2] for step in program[1]] + list(program[2])


def slow_make(program, standing, move):
    """Make a move as point 3 of the document says it."""
    _, steps, tests = program
    room, a, b = standing
    if move < len(steps):
        source, target, first, second = steps[move]
        if room == source and a + first >= 0 and b + second >= 0:
            return (target, a + first, b + second)
        return None
    source, target = tests[move - len(steps)]
    return (target, a, b) if room == source and a == 0 else None


def slow_play(program, standing, word):
    for move in word:
        if standing is None:
            return None
        standing = slow_make(program, standing, move)
    return standing


def slow_is_walk(program, word):
    ends = sources_and_targets(program)
    return all(ends[word[at]][1] == ends[word[at + 1]][0] for at in range(len(word) - 1))


def words_up_to(program, longest):
    """Yield all words of the program with at most so many moves."""
    moves = range(len(program[1]) + len(program[2]))
    for length in range(longest + 1):
        yield from itertools.product(moves, repeat=length)


EMPTY = (1, (), ())
COUNTER = (1, ((0, 0, 1, 0), (0, 0, -1, 2), (0, 0, 2, -2)), ((0, 0),))
PAIR = (2, ((0, 1, 1, -2), (1, 0, 0, 2), (0, 0, -2, 1)), ((1, 1), (1, 0)))
TRIANGLE = (3, ((0, 1, -1, 2), (1, 2, 2, -1), (2, 0, -2, -2), (2, 2, 0, 0)), ((0, 2), (2, 1)))
STEPS_ALONE = (3, ((0, 1, -2, -2), (1, 2, 2, 2), (2, 0, 0, 1), (1, 1, -1, 0)), ())
TESTS_ALONE = (3, (), ((0, 2), (2, 0)))
PROGRAMS = (EMPTY, COUNTER, PAIR, TRIANGLE, STEPS_ALONE, TESTS_ALONE)
NO_PROGRAMS = ((), [], None, "rooms 1", (4, (), ()), (1, ((0, 0, 3, 0),), ()), [1, (), ()])
