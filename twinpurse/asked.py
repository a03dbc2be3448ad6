"""Of which standings of fans a question is so, for fans of any size.

A fan is split into parts in which all that is asked of sums with a bound (most) is settled. A part is a tuple
(piece, many, question): a piece of the fan; how many counts of its only ray are meant (None for all of them, 1 for a
piece without rays); and what is still asked, of remainders alone, or True.
"""

from math import gcd, lcm

from twinpurse.parts import order_of, order_of_fan
from twinpurse.pieces import ahead_of, beyond_count, moved, sums_at, with_count
from twinpurse.sectors import direction_of, parts_between, sectors, spanned


def is_so(question, standing):
    """Tell whether a question is so of a standing."""
    return simplified(question, (standing[0], standing[1:], ()), settled_in)


def least_with(fans, question):
    """Return the least standing of the fans of which the question is so, or None."""
    seeker = Least()
    _look_through(sorted(fans, key=order_of_fan), question, seeker)
    return seeker.best


def fans_with(fans, question):
    """Return a list of fans with just the standings of the fans of which the question is so."""
    seeker = Parts()
    _look_through(fans, question, seeker)
    return [fan for part in seeker.found for fan in _fans_in(part)]


def number_with(fans, question):
    """Return of how many standings of the fans the question is so, or None if they are endlessly many."""
    seeker = Finite()
    _look_through(fans, question, seeker)
    if seeker.is_endless:
        return None
    told = set()
    for piece, many, asked in seeker.found:
        for standing in _standings_in(piece, many, asked):
            told.add(standing)
    return len(told)


class Least:
    """Looks for the least standing, and at nothing that cannot have it."""

    def __init__(self):
        self.best = None

    def wants(self, piece):
        return self.best is None or order_of_fan(piece) < order_of(self.best)

    def take(self, part):
        if self.wants(part[0]):
            standing = first_in(part)
            if standing is not None and (self.best is None or order_of(standing) < order_of(self.best)):
                self.best = standing


class Parts:
    """Takes all parts."""

    def __init__(self):
        self.found = []

    def wants(self, piece):
        return True

    def take(self, part):
        self.found.append(part)


class Finite:
    """Takes all parts with finitely many standings, until there is one with endlessly many."""

    def __init__(self):
        self.found = []
        self.is_endless = False

    def wants(self, piece):
        return not self.is_endless

    def take(self, part):
        if part[1] is not None:
            self.found.append(part)
        elif first_in(part) is not None:
            self.is_endless = True


class Hopes:
    """Which questions of remainders are so of some standing of a fan, so that they may be so of one of its parts."""

    def __init__(self, fan):
        self.fan = fan
        self.known = []

    def may_be_so(self, question):
        if question is True:
            return True
        for told, may_be in self.known:
            if told == question:
                return may_be
        may_be = first_in((self.fan, None, question)) is not None
        self.known.append((question, may_be))
        return may_be


def simplified(question, piece, settle):
    """Return True or False, or what of the question is not settled for a piece."""
    name = question[0]
    if name == "not":
        inner = simplified(question[1], piece, settle)
        return not inner if inner is True or inner is False else ("not", inner)
    if name != "and" and name != "or":
        return settle(question, piece)
    first = simplified(question[1], piece, settle)
    if first is True or first is False:
        return first if first == (name == "or") else simplified(question[2], piece, settle)
    second = simplified(question[2], piece, settle)
    if second is True or second is False:
        return second if second == (name == "or") else first
    return (name, first, second)


def settled_in(form, piece):
    """Return True or False if this is so of all standings of the piece, or of none; otherwise the form itself."""
    if form[0] == "most":
        own, multiples = sums_at(piece, _condition_of(form))
        if own >= 0 and min(multiples, default=0) >= 0:
            return True
        return False if own < 0 and max(multiples, default=0) <= 0 else form
    return _settled_at_all_bases(form, piece)


def settled_at_base(form, piece):
    """Do as settled_in, where all sums with a bound are settled as they are for the base."""
    if form[0] == "most":
        return sums_at(piece, _condition_of(form))[0] >= 0
    return _settled_at_all_bases(form, piece)


def settled_widely(form, piece):
    """Do as settled_in, where all between the rays is meant, and not only what is made of them."""
    return form if form[0] == "rest" else settled_in(form, piece)


def first_in(part):
    """Return the least standing of a part of which its question is so, or None."""
    piece, many, question = part
    room, base, rays = piece
    if question is True:
        return (room, *base)
    if len(rays) == 2:
        return _first_between(piece, question)
    rounds = _rounds_of(question, rays[0])
    for count in range(rounds if many is None else min(rounds, many)):
        standing = (room, *moved(base, rays[0], count))
        if is_so(question, standing):
            return standing
    return None


def _condition_of(form):
    return (form[3], -form[1], -form[2])


def _settled_at_all_bases(form, piece):
    if form[0] == "room":
        return piece[0] == form[1]
    _, first, second, modulus, remainder = form
    own, multiples = sums_at(piece, (-remainder, first, second))
    common = modulus
    for multiple in multiples:
        common = gcd(common, multiple)
    if own % common != 0:
        return False
    return True if common == modulus else form


def _look_through(fans, question, seeker):
    """Let the seeker take all parts of the fans in which the question is not settled as False."""
    for fan in fans:
        _split(fan, question, seeker, Hopes(fan))


def _split(piece, question, seeker, hopes):
    """Let the seeker take all parts of a piece in which the question is not settled as False."""
    if not seeker.wants(piece):
        return
    told = question is True or simplified(question, piece, settled_in)
    if told is False:
        return
    forms = [] if told is True else _forms_in(told, "most")
    if forms and len(piece[2]) == 1:
        _split_line(piece, told, forms, seeker, hopes)
    elif forms:
        _split_between(piece, told, forms, seeker, hopes)
    elif hopes.may_be_so(told):
        seeker.take((piece, None if piece[2] else 1, told))


def _split_between(piece, question, forms, seeker, hopes):
    """Do as _split for a piece with two rays."""
    sums = [sums_at(piece, _condition_of(form)) for form in forms]
    directions = [direction_of(multiples) for _, multiples in sums if min(multiples) < 0 < max(multiples)]
    if not directions:
        own, multiples = sums[0]
        index, many = ahead_of(own, multiples)
        for count in range(many):
            _split(with_count(piece, index, count), question, seeker, hopes)
        _split(beyond_count(piece, index, many), question, seeker, hopes)
        return
    for low, high in sectors(directions):
        told = simplified(question, spanned(piece, low, high), settled_widely)
        if told is not False and (told is True or _forms_in(told, "most") or hopes.may_be_so(told)):
            for part in parts_between(piece, low, high):
                _split(part, told, seeker, hopes)


def _split_line(piece, question, forms, seeker, hopes):
    """Do as _split for a piece with one ray: each sum comes over its bound once, or falls below it."""
    turns = [0]
    for form in forms:
        own, (multiple,) = sums_at(piece, _condition_of(form))
        if own < 0 < multiple or multiple < 0 <= own:
            turns.append(ahead_of(own, [multiple])[1])
    turns = sorted(set(turns))
    for low, high in zip(turns, [*turns[1:], None]):
        part = beyond_count(piece, 0, low)
        told = simplified(question, part, settled_at_base)
        if told is not False and hopes.may_be_so(told):
            seeker.take((part, None if high is None else high - low, told))


def _first_between(piece, question):
    room, base, (ray, other) = piece
    best = None
    for count in range(_rounds_of(question, ray)):
        at = (room, *moved(base, ray, count))
        for _ in range(_rounds_of(question, other)):
            if best is not None and order_of(at) >= order_of(best):
                break
            if is_so(question, at):
                best = at
            at = (room, *moved(at[1:], other, 1))
    return best


def _forms_in(question, name):
    """Return the list of the forms with a name in a question."""
    if question[0] in ("not", "and", "or"):
        return [form for part in question[1:] for form in _forms_in(part, name)]
    return [question] if question[0] == name else []


def _rounds_of(question, ray):
    """Return the least number of times from 1 on that a ray changes no remainder that is asked for."""
    rounds = 1
    for _, first, second, modulus, _ in _forms_in(question, "rest"):
        rounds = lcm(rounds, modulus // gcd(modulus, first * ray[0] + second * ray[1]))
    return rounds


def _standings_in(piece, many, question):
    """Return the list of the standings of a part with finitely many counts."""
    room, base, rays = piece
    told = [(room, *moved(base, rays[0], count)) for count in range(many)] if rays else [(room, *base)]
    return told if question is True else [standing for standing in told if is_so(question, standing)]


def _fans_in(part):
    """Return a list of fans with the standings of a part of which its question is so."""
    piece, many, question = part
    room, base, rays = piece
    if many is not None:
        return [(room, standing[1:], ()) for standing in _standings_in(piece, many, question)]
    if question is True:
        return [piece]
    bases, longer = [base], []
    for ray in rays:
        rounds = _rounds_of(question, ray)
        bases = [moved(at, ray, count) for at in bases for count in range(rounds)]
        longer.append((rounds * ray[0], rounds * ray[1]))
    return [(room, at, tuple(longer)) for at in bases if is_so(question, (room, *at))]
