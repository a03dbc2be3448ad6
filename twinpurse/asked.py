"""Of which standings of fans a question is so, for fans of any size.

A fan is split into parts in which all that is asked of sums with a bound (most) is settled. A part is a tuple
(piece, many, remainders): a piece of the fan; how many counts of its only ray are meant (None for all of them, 1 for a
piece without rays); and what is still asked, of remainders alone.
"""

from twinpurse.parts import everything, order_of, order_of_fan
from twinpurse.pieces import ahead_of, beyond_count, sums_at, with_count
from twinpurse.programs import MOST_ROOMS
from twinpurse.remainders import Remainders
from twinpurse.sectors import direction_of, parts_between, sectors, spanned
from twinpurse.settling import condition_of, forms_in, settled_at_base, settled_in, settled_widely, simplified

MANY = 20


def least_with(fans, question):
    """Return the least standing of the fans of which the question is so, or None."""
    seeker = Least()
    _look_through(sorted(fans, key=order_of_fan), question, seeker)
    return seeker.best


def fans_with(fans, question):
    """Return a list of fans with just the standings of the fans of which the question is so."""
    seeker = Parts()
    _look_through(fans, question, seeker)
    told = {}
    for piece, many, remainders in seeker.found:
        # Fans that have standings in common give some fans twice, which are told once.
        fans_here = remainders.fans_in(piece) if many is None else [
            (standing[0], standing[1:], ()) for standing in remainders.standings_in(piece, many)
        ]
        for fan in fans_here:
            told[fan] = True
    return list(told)


def number_with(fans, question):
    """Return of how many standings of the fans the question is so, or None if they are endlessly many."""
    seeker = Finite()
    _look_through(fans, question, seeker)
    if seeker.is_endless:
        return None
    told = set()
    for piece, many, remainders in seeker.found:
        for standing in remainders.standings_in(piece, many):
            told.add(standing)
    return len(told)


class Least:
    """Looks for the least standing, and at nothing that cannot have it."""

    def __init__(self):
        self.best = None

    def wants(self, piece):
        return self.best is None or order_of_fan(piece) < order_of(self.best)

    def take(self, piece, many, remainders):
        if self.wants(piece):
            standing = remainders.first_in(piece, many)
            if standing is not None and (self.best is None or order_of(standing) < order_of(self.best)):
                self.best = standing


class Parts:
    """Takes all parts."""

    def __init__(self):
        self.found = []

    def wants(self, piece):
        return True

    def take(self, piece, many, remainders):
        self.found.append((piece, many, remainders))


class Finite:
    """Takes all parts with finitely many standings, until there is one with endlessly many."""

    def __init__(self):
        self.found = []
        self.is_endless = False

    def wants(self, piece):
        return not self.is_endless

    def take(self, piece, many, remainders):
        if many is not None:
            self.found.append((piece, many, remainders))
        elif remainders.first_in(piece, None) is not None:
            self.is_endless = True


class Splitter:
    """Splits fans into parts, and lets a seeker take those of which the question may be so."""

    def __init__(self, seeker):
        self.seeker = seeker
        self.known = []
        self.fan = None
        self.hopes = {}

    def look_at(self, fan, question):
        self.fan = fan
        self.hopes = {}
        self.take_apart(fan, question)

    def remainders_of(self, question):
        """Return what is known of a question, or None if its remainders are left by no standing of the fan."""
        number = 0
        while number < len(self.known) and self.known[number].question != question:
            number += 1
        if number == len(self.known):
            self.known.append(Remainders(question))
        if number not in self.hopes:
            self.hopes[number] = self.known[number].may_be_in(self.fan)
        return self.known[number] if self.hopes[number] else None

    def take_apart(self, piece, question):
        if not self.seeker.wants(piece):
            return
        told = question is True or simplified(question, piece, settled_in)
        if told is False or self.remainders_of(told) is None:
            return
        forms = [] if told is True else forms_in(told, "most")
        if not forms:
            self.offer(piece, None if piece[2] else 1, told)
        elif len(piece[2]) == 1:
            self.take_line_apart(piece, told, forms)
        else:
            self.take_sectors_apart(piece, told, forms)

    def offer(self, piece, many, question):
        remainders = self.remainders_of(question)
        if remainders is not None:
            self.seeker.take(piece, many, remainders)

    def take_line_apart(self, piece, question, forms):
        """Split a piece with one ray: each sum comes over its bound once, or falls below it."""
        turns = [0]
        for form in forms:
            own, (multiple,) = sums_at(piece, condition_of(form))
            if own < 0 < multiple or multiple < 0 <= own:
                turns.append(ahead_of(own, [multiple])[1])
        turns = sorted(set(turns))
        for low, high in zip(turns, [*turns[1:], None]):
            part = beyond_count(piece, 0, low)
            told = simplified(question, part, settled_at_base)
            if told is not False:
                self.offer(part, None if high is None else high - low, told)

    def take_sectors_apart(self, piece, question, forms):
        """Split a piece with two rays, along directions first in which a sum stays as it is."""
        sums = [sums_at(piece, condition_of(form)) for form in forms]
        directions = [direction_of(multiples) for _, multiples in sums if min(multiples) < 0 < max(multiples)]
        if not directions:
            self.take_ahead_apart(piece, question, sums[0])
        for low, high in sectors(directions) if directions else []:
            told = simplified(question, spanned(piece, low, high), settled_widely)
            if told is not False and self.remainders_of(told) is not None:
                for part in parts_between(piece, low, high):
                    self.take_apart(part, told)

    def take_ahead_apart(self, piece, question, told):
        """Split off the first few counts, with which a sum may not yet have come to its bound."""
        own, multiples = told
        index, many = ahead_of(own, multiples)
        for count in range(many):
            self.take_apart(with_count(piece, index, count), question)
        self.take_apart(beyond_count(piece, index, many), question)


def _look_through(fans, question, seeker):
    splitter = Splitter(seeker)
    # Before many fans are split, it is looked whether the question is so anywhere.
    if len(fans) > MANY and least_with(everything(MOST_ROOMS), question) is None:
        return
    for fan in fans:
        splitter.look_at(fan, question)
