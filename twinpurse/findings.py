"""What is so of all that is reached, told from what the search behind reach has found."""

from twinpurse.asked import least_with
from twinpurse.papers import road_to
from twinpurse.parts import order_of
from twinpurse.runs import led_by, moves_of


def stuck_in(program, fans):
    """Return the least standing of the fans in which no move can be made, or None."""
    moves = moves_of(program)
    found = []
    for room in range(program[0]):
        fans_here = [fan for fan in fans if fan[0] == room]
        standing = least_with(fans_here, _nothing_can_be_made(room, moves))
        if standing is not None:
            found.append(standing)
    return min(found, key=order_of, default=None)


def greatest_in(fans):
    """Return the greatest number in each purse, or None for it where there is none; there is a fan at least."""
    return tuple([_greatest_of(fans, purse) for purse in (0, 1)])


def lasso_in(program, founds):
    """Return a lasso for what was found, or None if it has finitely many standings and no move leads back to one."""
    for found in founds:
        if found.fan[2]:
            return _lasso_of_rays(found)
    return _lasso_of_standings(program, founds)


def _nothing_can_be_made(room, moves):
    """Return what is asked of a standing in a room in which no move can be made, as questions are."""
    asked = ("room", room)
    for source, _, first, second, is_test in moves:
        if source == room and is_test:
            asked = ("and", asked, ("most", -1, 0, -1))
        elif source == room:
            asked = ("and", asked, ("or", ("most", 1, 0, -first - 1), ("most", 0, 1, -second - 1)))
    return asked


def _greatest_of(fans, purse):
    if any([ray[purse] > 0 for _, _, rays in fans for ray in rays]):
        return None
    return max([base[purse] for _, base, _ in fans])


def _lasso_of_rays(found):
    # The first ray came from a ring that was taken at one standing, and can be taken there again and again.
    while found.before.fan[2]:
        found = found.before
    before = found.before
    return (road_to(before), (before.fan[0], *before.fan[1]), (("ring", found.word, (1,)),))


def _lasso_of_standings(program, founds):
    moves = moves_of(program)
    places = {(found.fan[0], *found.fan[1]): found for found in founds}
    steps = _without_ends({standing: _steps_from(moves, standing) for standing in places})
    if not steps:
        return None
    # From each standing that is left a move leads to another one that is left, so that one comes back at last.
    standing = min(list(steps), key=order_of)
    word, places_in_word = [], {}
    while standing not in places_in_word:
        places_in_word[standing] = len(word)
        move, standing = steps[standing][0]
        word.append(move)
    return (road_to(places[standing]), standing, (("walk", tuple(word[places_in_word[standing]:])),))


def _steps_from(moves, standing):
    """Return the list of the moves that can be made, each with the standing to which it leads."""
    led = [(move, led_by(told, standing)) for move, told in enumerate(moves)]
    return [(move, target) for move, target in led if target is not None]


def _without_ends(steps):
    """Leave out, again and again, standings from which no move leads to one that is left."""
    before = {standing: [] for standing in steps}
    for standing, told in steps.items():
        for _, target in told:
            before[target].append(standing)
    ways_out = {standing: len(told) for standing, told in steps.items()}
    ends = [standing for standing, many in ways_out.items() if many == 0]
    while ends:
        for standing in before[ends.pop()]:
            ways_out[standing] -= 1
            if ways_out[standing] == 0:
                ends.append(standing)
    return {
        standing: [(move, target) for move, target in told if ways_out[target] > 0]
        for standing, told in steps.items() if ways_out[standing] > 0
    }
