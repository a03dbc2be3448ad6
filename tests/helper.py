"""What the tests share: ways to spoil a value, and moves made slowly, straight from the document."""

import itertools
import random

NOT_INTEGERS = (True, False, None, "0", "", (0,), [0], {}, 1.0)
NOT_TUPLES = (None, True, False, 0, 1, "", "text", {}, set(), b"ab")


def places(value, wanted, path=()):
    """Yield the paths to all parts of a nested tuple or list that are of the wanted class."""
    if type(value) is wanted:
        yield path
    if isinstance(value, (tuple, list)):
        for at, part in enumerate(value):
            yield from places(part, wanted, path + (at,))


def part_at(value, path):
    for at in path:
        value = value[at]
    return value


def put(value, path, new):
    """Return the value with the part at the path replaced."""
    if not path:
        return new
    parts = list(value)
    parts[path[0]] = put(parts[path[0]], path[1:], new)
    return type(value)(parts)


def spoilt_kinds(value):
    """Yield the value with one part at a time replaced by one of another kind."""
    for path in places(value, int):
        for wrong in NOT_INTEGERS:
            yield put(value, path, wrong)
    for path in places(value, tuple):
        yield put(value, path, list(part_at(value, path)))
        for wrong in NOT_TUPLES:
            yield put(value, path, wrong)


def spoilt_length(value, path, more):
    """Yield the value with a part too few at either end of a tuple, and with one too many."""
    parts = part_at(value, path)
    yield put(value, path, parts[1:])
    yield put(value, path, parts[:-1])
    yield put(value, path, parts + (more,))
    yield put(value, path, (more,) + parts)
    yield put(value, path, ())


def sources_and_targets(program):
    return [step[:2] for step in program[1]] + list(program[2])


def slow_make(program, standing, move):
    """Make a move as point 3 of the document says it."""
    _, steps, tests = program
    room, a, b = standing
    if move < len(steps):
        source, target, first, second = steps[move]
        if room == source and a + first >= 0 and b + second >= 0:
            return (target, a + first, b + second)
        return None
    source, target = tests[move - len(steps)]
    return (target, a, b) if room == source and a == 0 else None


def slow_play(program, standing, word):
    for move in word:
        if standing is None:
            return None
        standing = slow_make(program, standing, move)
    return standing


def slow_is_walk(program, word):
    ends = sources_and_targets(program)
    return all(ends[word[at]][1] == ends[word[at + 1]][0] for at in range(len(word) - 1))


def words_up_to(program, longest):
    """Yield all words of the program with at most so many moves."""
    moves = range(len(program[1]) + len(program[2]))
    for length in range(longest + 1):
        yield from itertools.product(moves, repeat=length)


EMPTY = (1, (), ())
COUNTER = (1, ((0, 0, 1, 0), (0, 0, -1, 2), (0, 0, 2, -2)), ((0, 0),))
PAIR = (2, ((0, 1, 1, -2), (1, 0, 0, 2), (0, 0, -2, 1)), ((1, 1), (1, 0)))
TRIANGLE = (3, ((0, 1, -1, 2), (1, 2, 2, -1), (2, 0, -2, -2), (2, 2, 0, 0)), ((0, 2), (2, 1)))
STEPS_ALONE = (3, ((0, 1, -2, -2), (1, 2, 2, 2), (2, 0, 0, 1), (1, 1, -1, 0)), ())
TESTS_ALONE = (3, (), ((0, 2), (2, 0)))
PROGRAMS = (EMPTY, COUNTER, PAIR, TRIANGLE, STEPS_ALONE, TESTS_ALONE)
NO_PROGRAMS = ((), [], None, "rooms 1", (4, (), ()), (1, ((0, 0, 3, 0),), ()), [1, (), ()])


def slow_spell(road, counts):
    """Tell the word of a road as point 6 of the document says it."""
    word = ()
    for part in road:
        times = 1 if part[0] == "walk" else sum(c * x for c, x in zip(part[2], (1,) + counts))
        word += part[1] * times
    return word


def slow_is_road_form(program, road, size):
    """Whether a road has the form of point 6, with walks and rings of the program, for so many counts."""
    moves = range(len(program[1]) + len(program[2]))
    ends = sources_and_targets(program)
    for part in road:
        word = part[1]
        if not all(move in moves for move in word) or not slow_is_walk(program, word):
            return False
        if part[0] == "ring":
            if not word or ends[word[0]][0] != ends[word[-1]][1]:
                return False
            if len(part[2]) != 1 + size or min(part[2]) < 0:
                return False
    return True


def counts_up_to(most, size):
    return itertools.product(range(most + 1), repeat=size)


def slow_is_road(program, start, fan, road, tried):
    """Whether a road is right, as far as the counts that are tried tell."""
    room, base, rays = fan
    if not slow_is_road_form(program, road, len(rays)):
        return False
    for counts in tried:
        first = base[0] + sum(count * ray[0] for count, ray in zip(counts, rays))
        second = base[1] + sum(count * ray[1] for count, ray in zip(counts, rays))
        if slow_play(program, start, slow_spell(road, counts)) != (room, first, second):
            return False
    return True


def slow_leaf(tree, counts):
    """Go down a tree as point 9 of the document says it."""
    while tree[0] not in ("out", "in"):
        if tree[0] == "less":
            _, index, trees, rest = tree
            if counts[index] < len(trees):
                tree, counts = trees[counts[index]], counts[:index] + counts[index + 1:]
            else:
                tree, counts = rest, tuple(c - len(trees) if at == index else c for at, c in enumerate(counts))
        elif tree[0] == "rest":
            _, index, trees = tree
            tree = trees[counts[index] % len(trees)]
            counts = tuple(c // len(trees) if at == index else c for at, c in enumerate(counts))
        else:
            x, y = counts
            tree, counts = (tree[1], (x, y - x)) if x <= y else (tree[2], (x - y - 1, y))
    return tree, counts


def search_up_to(program, start, most):
    """Return the standings found with at most so much in both purses together, and whether these are all."""
    found, waiting, whole = {start}, [start], True
    moves = range(len(program[1]) + len(program[2]))
    while waiting:
        standing = waiting.pop()
        for move in moves:
            led = slow_make(program, standing, move)
            if led is not None and led not in found:
                if led[1] + led[2] > most:
                    whole = False
                else:
                    found.add(led)
                    waiting.append(led)
    return found, whole


def seen(lot, most):
    """Return the set of standings of the lot with less than so much in each purse, by going along its rays."""
    found = set()
    for room, base, rays in lot:
        line = along(base, rays[0], most) if rays else [base]
        for point in line:
            for a, b in along(point, rays[1], most) if len(rays) == 2 else [point]:
                if a < most and b < most:
                    found.add((room, a, b))
    return found


def along(point, ray, most):
    a, b = point
    while a < most and b < most:
        yield (a, b)
        a, b = a + ray[0], b + ray[1]


def drawn_program(rng, rooms=None):
    """Draw a program of which the rooms are mostly joined in a circle."""
    rooms = rooms or rng.choice((1, 1, 2, 2, 2, 3))
    steps = []
    for at in range(rng.choice((2, 3, 4, 4, 4))):
        source, target = rng.randrange(rooms), rng.randrange(rooms)
        if rng.random() < 0.5:
            source, target = at % rooms, (at + 1) % rooms
        steps.append((source, target, rng.randint(-2, 2), rng.randint(-2, 2)))
    tests = [(rng.randrange(rooms), rng.randrange(rooms)) for _ in range(rng.choice((0, 1, 1, 2)))]
    return (rooms, tuple(steps), tuple(tests))


def drawn_start(rng, program, most=4):
    return (rng.randrange(program[0]), rng.randint(0, most), rng.randint(0, most))


def drawn_cases(seed, many):
    rng = random.Random(seed)
    for _ in range(many):
        program = drawn_program(rng)
        yield program, drawn_start(rng, program)


def order(standing):
    """What is less for the lesser one of two standings, as point 14 tells it."""
    room, a, b = standing
    return (a + b, a, room)


def slow_holds(question, standing):
    """Whether a question is so of a standing, straight from point 15."""
    name = question[0]
    if name == "not":
        return not slow_holds(question[1], standing)
    if name in ("and", "or"):
        told = [slow_holds(part, standing) for part in question[1:]]
        return all(told) if name == "and" else any(told)
    if name == "room":
        return standing[0] == question[1]
    total = question[1] * standing[1] + question[2] * standing[2]
    return total <= question[3] if name == "most" else total % question[3] == question[4]


def drawn_form(rng, bound):
    def factor():
        return rng.choice((0, 1, -1, rng.randint(-6, 6)))
    name = rng.choice(("room", "most", "most", "most", "rest", "rest"))
    if name == "room":
        return (name, rng.randrange(3))
    if name == "most":
        return (name, factor(), factor(), rng.randint(-bound, bound))
    modulus = rng.randint(2, 6)
    return (name, factor(), factor(), modulus, rng.randrange(modulus))


def drawn_question(rng, forms, bound, nots=3):
    """Draw a question with so many of the first three forms, and at most so many nots."""
    below = rng.randint(0, nots)
    if forms == 1:
        question = drawn_form(rng, bound)
    else:
        few, here = rng.randint(1, forms - 1), rng.randint(0, below)
        parts = (drawn_question(rng, few, bound, here), drawn_question(rng, forms - few, bound, below - here))
        question = (rng.choice(("and", "or")), *parts)
    return ("not", question) if below < nots and rng.random() < 0.5 else question


def led_to(program, standing):
    """The list of the standings to which the moves lead."""
    led = [slow_make(program, standing, move) for move in range(len(program[1]) + len(program[2]))]
    return [target for target in led if target is not None]


def reaching(program, standings, goal):
    """Those of finitely many standings, of which no move leads out, that reach the goal."""
    before = {standing: [] for standing in standings}
    for standing in standings:
        for target in led_to(program, standing):
            before[target].append(standing)
    found, waiting = {goal}, [goal]
    while waiting:
        for standing in before[waiting.pop()]:
            if standing not in found:
                found.add(standing)
                waiting.append(standing)
    return found


def has_cycle(program, standings):
    """Whether some moves lead from one of finitely many standings back to it."""
    left = {standing: led_to(program, standing) for standing in standings}
    while True:
        kept = {standing: told for standing, told in left.items() if any(target in left for target in told)}
        if len(kept) == len(left):
            return bool(left)
        left = kept


def slow_program(rng, rooms=None):
    """Draw a program whose steps put little in, so that mostly finitely many standings are reached."""
    rooms = rooms or rng.choice((1, 2, 2, 3, 3))
    effects = ((-1, 0), (0, -1), (-1, 1), (1, -1), (-2, 2), (2, -2), (-1, 2), (0, 0), (-2, 1), (1, -2), (2, -1), (1, 0))
    many = rng.choice((0, 1, 2, 3, 4, 4))
    steps = [(rng.randrange(rooms), rng.randrange(rooms), *rng.choice(effects)) for _ in range(many)]
    tests = [(rng.randrange(rooms), rng.randrange(rooms)) for _ in range(rng.choice((0, 0, 1, 2)))]
    return (rooms, tuple(steps), tuple(tests))
