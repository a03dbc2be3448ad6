"""The search for all that a start reaches: fans, each with the way on which it was found."""

from heapq import heappop, heappush

from twinpurse.covers import cover
from twinpurse.fans import turn_of
from twinpurse.pieces import moved
from twinpurse.rings import least_counts, taken
from twinpurse.runs import effect_along, moves_of, need_along
from twinpurse.shelves import Shelf
from twinpurse.sums import value_at

LONGEST_RING = 400
# In how many pieces a fan may lie in others, if it is not to be looked at: the more,
# the longer the search is, so that it does not go on without end where small pieces are needed.
MOST_LEAVES = 1000
MORE_LEAVES = 10


class Found:
    """A fan that is reached, and how: from another one by a move (rounds None), or by a ring.

    The maps tell the counts of the other one's rays, as an own number and a multiple of each count of this fan;
    they are None if the counts are the same.
    If a fan is replaced, what stands under it is needed no more.
    """

    def __init__(self, fan, before, word, rounds, maps):
        self.fan = fan
        self.before = before
        self.word = word
        self.rounds = rounds
        self.maps = maps
        self.under = before
        self.replaced = False

    def is_needed(self):
        at = self
        while at is not None:
            if at.replaced:
                return False
            at = at.under
        return True


class Search:
    """What was found so far, in the order in which it was looked at, and what is still to be looked at."""

    def __init__(self, program):
        self.program = program
        self.moves = moves_of(program)
        self.rings = [[self.ring_of(word) for word in cycles_at(self.moves, room)] for room in range(program[0])]
        self.queue = []
        self.waiting = []
        self.founds = []
        self.shelves = [Shelf([]) for _ in range(program[0])]

    def ring_of(self, word):
        moves = [self.moves[move] for move in word]
        return (word, need_along(moves), effect_along(moves))

    def propose(self, found):
        """Let a fan wait for its turn."""
        heappush(self.queue, (_weight(found.fan), len(self.waiting)))
        self.waiting.append(found)

    def start(self, standing):
        """Let the standing be the first one from which the search goes."""
        self.propose(Found((standing[0], standing[1:], ()), None, (), None, ()))

    def run(self):
        """Look at everything that waits, and at what comes out of it."""
        while self.queue:
            _, index = heappop(self.queue)
            found = self.waiting[index]
            if found.is_needed() and not self.is_covered(found.fan):
                self.look_at(found)

    def is_covered(self, fan):
        most = MOST_LEAVES + MORE_LEAVES * len(self.founds)
        return cover(fan, self.shelves[fan[0]], most) is not None

    def look_at(self, found):
        """Replace the fan by others with more rays, or one before it; otherwise keep it and go on from it."""
        room = found.fan[0]
        if not self.replace_by_rings(found, self.rings[room]) and not self.replace_behind(found):
            self.keep(found)

    def keep(self, found):
        """Keep a fan, and make all moves from it."""
        self.founds.append(found)
        self.shelves[found.fan[0]].put(found.fan)
        for move, told in enumerate(self.moves):
            if told[0] == found.fan[0]:
                self.take_move(found, move, told)

    def keep_waiting(self):
        """Keep all that waits, although it lies in what was found."""
        indexes = [index for _, index in self.queue]
        self.queue = []
        for index in indexes:
            self.keep(self.waiting[index])

    def replace_by_rings(self, found, rings):
        """Take rings; if one leads to fans that have the whole fan in them, they take its place."""
        _, base, rays = found.fan
        best = None
        for word, needed, effect in rings:
            for whole, fans in taken(base, rays, needed, effect):
                if not whole:
                    self.propose_family(found, word, fans, found)
                elif best is None or _rays_weight(fans[0][1]) < _rays_weight(best[1][0][1]):
                    best = (word, fans)
        if best is None:
            return False
        word, fans = best
        self.propose_family(found, word, fans, found.under)
        found.replaced = True
        return True

    def propose_family(self, found, word, fans, under):
        for base, rays, rounds, maps in fans:
            told = Found((found.fan[0], base, rays), found, word, rounds, maps)
            told.under = under
            self.propose(told)

    def take_move(self, found, move, told):
        _, target, first, second, is_test = told
        _, base, rays = found.fan
        if is_test:
            if base[0] == 0:
                kept = [index for index, ray in enumerate(rays) if ray[0] == 0]
                maps = maps_from([0 for _ in rays], kept)
                fan = (target, base, tuple([rays[index] for index in kept]))
                self.propose(Found(fan, found, (move,), None, maps))
            return
        for counts in least_counts(base, rays, (-first, -second)):
            at = base
            for ray, count in zip(rays, counts):
                at = moved(at, ray, count)
            fan = (target, moved(at, (first, second), 1), rays)
            maps = maps_from(counts, list(range(len(rays)))) if any(counts) else None
            self.propose(Found(fan, found, (move,), None, maps))

    def replace_behind(self, found):
        """Take the words that lead from an earlier fan in the same room to this one."""
        word = ()
        needed = (0, 0, False)
        effect = (0, 0)
        counts = [0 for _ in found.fan[2]]
        at = found
        while at.before is not None:
            times = times_at(at.rounds, counts)
            if len(word) + times * len(at.word) > LONGEST_RING:
                return False
            for move in reversed(at.word * times):
                needed = need_ahead(self.moves[move], needed)
                effect = moved(effect, self.moves[move][2:4], 1)
            word = at.word * times + word
            counts = counts_before(at, counts)
            at = at.before
            if not at.replaced and _may_lead(at.fan, found.fan):
                ring = (word, needed, effect)
                if self.replace_by_rings(at, [ring]):
                    self.rings[found.fan[0]].append(ring)
                    self.drop_replaced()
                    return not found.is_needed()
        return False

    def drop_replaced(self):
        """Forget what is needed no more."""
        self.founds = [found for found in self.founds if found.is_needed()]
        self.shelves = [
            Shelf([found.fan for found in self.founds if found.fan[0] == room]) for room in range(self.program[0])
        ]


def times_at(rounds, counts):
    return 1 if rounds is None else value_at(rounds, counts)


def counts_before(found, counts):
    """Return the counts in the fan before, for counts of this one."""
    return counts if found.maps is None else [value_at(told, counts) for told in found.maps]


def maps_from(owns, kept):
    """Return the maps for a fan with some of the rays of another one, in their order."""
    return tuple([(own, *[1 if index == at else 0 for at in kept]) for index, own in enumerate(owns)])


def need_ahead(told, needed):
    """Return the need of a walk with a move put ahead of it."""
    _, _, first, second, is_test = told
    least_first, least_second, exact = needed
    if is_test:
        return (0, least_second, True)
    least_second = max(0, -second, least_second - second)
    if exact:
        return (least_first - first, least_second, True)
    return (max(0, -first, least_first - first), least_second, False)


def cycles_at(moves, room):
    """Return the rings from a room in which no room is passed twice."""
    found = []
    paths = [((), (room,))]
    while paths:
        word, rooms = paths.pop()
        for move, told in enumerate(moves):
            if told[0] == rooms[-1]:
                if told[1] == room:
                    found.append((*word, move))
                elif told[1] not in rooms:
                    paths.append(((*word, move), (*rooms, told[1])))
    return found


def _may_lead(fan, other):
    """Whether a ring may lead from a fan to another one, which has no more in it but for the ring."""
    if fan[0] != other[0] or fan[1][0] > other[1][0] or fan[1][1] > other[1][1]:
        return False
    return all([_is_between(ray, fan[2]) for ray in other[2]])


def _is_between(ray, rays):
    turns = [turn_of(ray, other) for other in rays]
    return 0 in turns or len(turns) == 2 and turns[0] * turns[1] < 0


def _weight(fan):
    return fan[1][0] + fan[1][1] + _rays_weight(fan[2])


def _rays_weight(rays):
    slant = sum([1 for ray in rays if ray[0] > 0 and ray[1] > 0])
    return 4 * sum([ray[0] + ray[1] for ray in rays]) + 150 * (2 - len(rays)) + 60 * slant
