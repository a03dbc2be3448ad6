"""Questions as far as they ask for remainders: they may be so of a standing as of others with the same remainders."""

from math import gcd, lcm

from twinpurse.parts import order_of
from twinpurse.pieces import moved
from twinpurse.settling import forms_in, settled_without_bounds, simplified


class Remainders:
    """A question, or True where nothing is asked, and for which remainders it may be so.

    If it asks for sums with a bound, too, each answer to them is taken for possible.
    """

    def __init__(self, question):
        self.question = question
        self.forms = [] if question is True else forms_in(question, "rest")
        self.modulus = 1
        for form in self.forms:
            self.modulus = lcm(self.modulus, form[3])
        self.known = {}
        self.is_nowhere = False

    def is_so(self, pair):
        """Tell whether the question is so where this is in the purses, or may be so."""
        if self.question is True:
            return True
        key = (pair[0] % self.modulus, pair[1] % self.modulus)
        if key not in self.known:
            self.known[key] = simplified(self.question, (0, key, ()), settled_without_bounds) is not False
        return self.known[key]

    def rounds_of(self, ray):
        """Return the least number of times from 1 on that a ray changes no remainder that is asked for."""
        rounds = 1
        for _, first, second, modulus, _ in self.forms:
            rounds = lcm(rounds, modulus // gcd(modulus, first * ray[0] + second * ray[1]))
        return rounds

    def may_be_in(self, fan):
        """Tell whether the question may be so of some standing of a fan."""
        if self.question is True:
            return True
        if self.is_nowhere:
            return False
        may_be = self.first_in(fan, None) is not None
        if not may_be:
            pairs = [(first, second) for first in range(self.modulus) for second in range(self.modulus)]
            self.is_nowhere = not any([self.is_so(pair) for pair in pairs])
        return may_be

    def first_in(self, piece, many):
        """Return the least standing of a part of which the question is so, or None."""
        room, base, rays = piece
        if self.is_so(base):
            return (room, *base)
        if len(rays) == 2:
            return self.first_between(piece)
        for count in range(self.rounds_of(rays[0]) if many is None else min(many, self.rounds_of(rays[0]))):
            at = moved(base, rays[0], count)
            if self.is_so(at):
                return (room, *at)
        return None

    def first_between(self, piece):
        room, base, (ray, other) = piece
        best = None
        for count in range(self.rounds_of(ray)):
            at = moved(base, ray, count)
            for _ in range(self.rounds_of(other)):
                if best is not None and order_of((room, *at)) >= order_of(best):
                    break
                if self.is_so(at):
                    best = (room, *at)
                at = moved(at, other, 1)
        return best

    def standings_in(self, piece, many):
        """Return the list of the standings of a part with so many counts of which the question is so."""
        room, base, rays = piece
        pairs = [moved(base, rays[0], count) for count in range(many)] if rays else [base]
        return [(room, *pair) for pair in pairs if self.is_so(pair)]

    def fans_in(self, piece):
        """Return a list of fans with the standings of a piece of which the question is so."""
        room, base, rays = piece
        bases, longer = [base], []
        for ray in rays:
            rounds = self.rounds_of(ray)
            bases = [moved(at, ray, count) for at in bases for count in range(rounds)]
            longer.append((rounds * ray[0], rounds * ray[1]))
        return [(room, at, tuple(longer)) for at in bases if self.is_so(at)]
