"""What of a question is settled for all standings of a piece at once."""

from math import gcd

from twinpurse.pieces import sums_at


def is_so(question, standing):
    """Tell whether a question is so of a standing."""
    return simplified(question, (standing[0], standing[1:], ()), settled_in)


def simplified(question, piece, settle):
    """Return True or False, or what of the question is not settled for a piece."""
    name = question[0]
    if name == "not":
        inner = simplified(question[1], piece, settle)
        return not inner if inner is True or inner is False else ("not", inner)
    if name != "and" and name != "or":
        return settle(question, piece)
    first = simplified(question[1], piece, settle)
    if first is True or first is False:
        return first if first == (name == "or") else simplified(question[2], piece, settle)
    second = simplified(question[2], piece, settle)
    if second is True or second is False:
        return second if second == (name == "or") else first
    return (name, first, second)


def settled_in(form, piece):
    """Return True or False if this is so of all standings of the piece, or of none; otherwise the form itself."""
    if form[0] == "most":
        own, multiples = sums_at(piece, condition_of(form))
        if own >= 0 and min(multiples, default=0) >= 0:
            return True
        return False if own < 0 and max(multiples, default=0) <= 0 else form
    return _settled_otherwise(form, piece)


def settled_at_base(form, piece):
    """Do as settled_in, where all sums with a bound are settled as they are for the base."""
    if form[0] == "most":
        return sums_at(piece, condition_of(form))[0] >= 0
    return _settled_otherwise(form, piece)


def settled_widely(form, piece):
    """Do as settled_in, where all between the rays is meant, and not only what is made of them."""
    return form if form[0] == "rest" else settled_in(form, piece)


def settled_without_bounds(form, piece):
    """Do as settled_in, where nothing is said of sums with a bound."""
    return form if form[0] == "most" else settled_in(form, piece)


def condition_of(form):
    """Return what is asked by most as a condition: what is to be at least 0."""
    return (form[3], -form[1], -form[2])


def forms_in(question, name):
    """Return the list of the forms with a name in a question."""
    if question[0] in ("not", "and", "or"):
        return [form for part in question[1:] for form in forms_in(part, name)]
    return [question] if question[0] == name else []


def _settled_otherwise(form, piece):
    if form[0] == "room":
        return piece[0] == form[1]
    _, first, second, modulus, remainder = form
    own, multiples = sums_at(piece, (-remainder, first, second))
    common = modulus
    for multiple in multiples:
        common = gcd(common, multiple)
    if own % common != 0:
        return False
    return True if common == modulus else form
