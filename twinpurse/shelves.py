"""Fans of one room, put in order so that those with a standing are found at once.

Fans with the same rays stand together. Of such fans, only those can have a standing in whose base the purses
leave the same remainders; it is in them if two sums of the purses are at least as great as in the base.
"""

from twinpurse.fans import turn_of
from twinpurse.pieces import conditions_of, counts_of_ray, times_to_meet


class Shelf:
    """Fans with their numbers, each under its rays."""

    def __init__(self, fans):
        self.fans = []
        self.groups = {}
        for fan in fans:
            self.put(fan)

    def put(self, fan):
        """Put in a fan; it gets the next number."""
        if fan[2] not in self.groups:
            self.groups[fan[2]] = Group(fan[2])
        self.groups[fan[2]].put(fan[1], len(self.fans))
        self.fans.append(fan)

    def take_out(self, number):
        """Let the fan with this number be found no more."""
        _, base, rays = self.fans[number]
        self.groups[rays].take_out(base, number)

    def put_back(self, number):
        """Let a fan that was taken out be found again."""
        _, base, rays = self.fans[number]
        self.groups[rays].put(base, number)

    def has(self, point):
        """Tell whether some fan has this pair in its purses."""
        return any([group.places_of(point) for group in self.groups.values()])

    def place_of(self, piece):
        """Return (number, begin, rows) for a fan in which the whole piece lies, or None."""
        for group in self.groups.values():
            rows = group.rows_of(piece[2])
            if rows is not None:
                for number, begin in group.places_of(piece[1]):
                    return (number, begin, rows)
        return None

    def best_at(self, point, piece):
        """Return the number of a fan with this point by which the piece is cut least, or None."""
        found = []
        for group in self.groups.values():
            if len(group.rays) >= len(piece[2]):
                places = group.places_of(point)
                if places:
                    found.append((group.cost_of(piece[2]), min([number for number, _ in places])))
        return min(found)[1] if found else None

    def densest_at(self, point, piece):
        """Return the number of a fan with this point of those that leave least of the piece, or None."""
        found = []
        for group in self.groups.values():
            if len(group.rays) >= len(piece[2]):
                places = group.places_of(point)
                if places:
                    outside, remainders = group.cost_of(piece[2])
                    # Of so many places for a fan between the rays, so many are taken.
                    rank = -(len(group.places) * 1000) // group.grain
                    found.append((outside, rank, remainders, min([number for number, _ in places])))
        return min(found)[3] if found else None


class Group:
    """Fans with the same rays: their bases, by what they leave as remainders."""

    def __init__(self, rays):
        self.rays = rays
        self.places = {}
        self.known_rows = {}
        self.known_costs = {}
        if len(rays) == 2:
            grain = turn_of(rays[0], rays[1])
            sign = 1 if grain > 0 else -1
            self.grain = sign * grain
            self.first = (sign * rays[1][1], -sign * rays[1][0])
            self.second = (-sign * rays[0][1], sign * rays[0][0])
        elif rays:
            self.grain = rays[0][0] if rays[0][0] else rays[0][1]
            self.first = (1, 0) if rays[0][0] else (0, 1)
            self.second = (-rays[0][1], rays[0][0])

    def put(self, base, number):
        key, first, second = self.sums_of(base)
        self.places.setdefault(key, []).append((first, second, number))

    def take_out(self, base, number):
        key, first, second = self.sums_of(base)
        self.places[key].remove((first, second, number))

    def sums_of(self, point):
        """Return the remainders of a pair, and the two sums that grow by the grain with each ray."""
        if not self.rays:
            return (point, 0, 0)
        first = self.first[0] * point[0] + self.first[1] * point[1]
        second = self.second[0] * point[0] + self.second[1] * point[1]
        if len(self.rays) == 1:
            return ((first % self.grain, second), first, 0)
        return ((first % self.grain, second % self.grain), first, second)

    def places_of(self, point):
        """Return the list of the fans with a pair in the purses: their numbers, and the counts there."""
        key, first, second = self.sums_of(point)
        if key not in self.places:
            return []
        size = len(self.rays)
        return [
            (number, ((first - low) // self.grain, (second - other_low) // self.grain)[:size] if size else ())
            for low, other_low, number in self.places[key] if low <= first and other_low <= second
        ]

    def rows_of(self, rays):
        """Return the counts that these rays put in, or None if one is no sum of the rays of the group."""
        if len(rays) > len(self.rays):
            return None
        if rays not in self.known_rows:
            fan = (0, (0, 0), self.rays)
            rows = [counts_of_ray(fan, ray) for ray in rays]
            self.known_rows[rays] = None if None in rows else tuple(rows)
        return self.known_rows[rays]

    def cost_of(self, rays):
        """Return how much a piece with these rays is cut by a fan of the group: by its edges, and by remainders."""
        if rays not in self.known_costs:
            conditions, congruences = conditions_of((0, (0, 0), self.rays))
            outside = 0
            remainders = 1
            for ray in rays:
                outside += 1 if any([a * ray[0] + b * ray[1] < 0 for _, a, b in conditions]) else 0
                remainders *= times_to_meet(ray, congruences)
            self.known_costs[rays] = (outside, remainders)
        return self.known_costs[rays]
