"""All that a start reaches, with a paper that shows it; ways to standings, and from where a goal is reached."""

from twinpurse.errors import BadArgument
from twinpurse.fans import counts_in
from twinpurse.papers import lot_of, road_to, table_of
from twinpurse.programs import check_standing, turned
from twinpurse.search import Search
from twinpurse.sums import value_at

MOST_AT_START = 4
# In how many pieces a fan may lie in others, if it is to be left out, and how many leaves a cover
# of what a move leads to may have: if a table cannot be made so, it is tried with the next ones.
ATTEMPTS = ((50, 1000), (1, 1000), (1, 20000), (1, 80000))


def reach(program, start):
    """Return a right paper for the program and the start."""
    check_start(program, start)
    founds, table = paper_parts(program, start)
    roads = [road_to(found) for found in founds]
    return ([found.fan for found in founds], tuple(roads), tuple(table))


def way(program, start, standing):
    """Return a right road to the standing, or None if the start does not reach it."""
    check_standing(program, start)
    check_standing(program, standing)
    check_start(program, start)
    for found in paper_parts(program, start)[0]:
        counts = counts_in(found.fan, standing)
        if counts is not None:
            return tuple([_with_counts(part, counts) for part in road_to(found)])
    return None


def sources(program, goal):
    """Return a lot with the standings that reach the goal."""
    check_start(program, goal)
    return reach(turned(program), goal)[0]


def check_start(program, start):
    check_standing(program, start)
    if max(start[1:]) > MOST_AT_START:
        raise BadArgument("there is too much in a purse")


def _with_counts(part, counts):
    if part[0] == "walk":
        return part
    return ("ring", part[1], (value_at(part[2], counts),))


def paper_parts(program, start):
    """Return the list of what was found, without what lies in the rest of it, and its table."""
    search = Search(program)
    search.start(start)
    search.run()
    tried = 0
    while True:
        most_parts, most_leaves = ATTEMPTS[tried]
        founds = lot_of(search.founds, program[0], most_parts)
        table, gaps = table_of(search.moves, [found.fan for found in founds], most_leaves)
        if not gaps:
            return founds, table
        # Where a fan was replaced, what lay in it may have to be looked at once more; or
        # what lies in the rest would have to be cut too much, since too much was left out.
        many = len(search.founds)
        for index, move in gaps:
            search.take_move(founds[index], move, search.moves[move])
        if tried == len(ATTEMPTS) - 1:
            search.keep_waiting()
        search.run()
        if len(search.founds) == many:
            tried = min(tried + 1, len(ATTEMPTS) - 1)
