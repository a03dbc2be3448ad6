"""What of fans lies in other fans, and what does not: as fans again, for fans of any size."""

from twinpurse.pieces import divide, leaves_of

ALL_PAIRS = ((1, 0), (0, 1))


def parts_outside(fans, others):
    """Return a list of fans with the standings of fans that are in none of the others."""
    # What takes away most goes first, so that there are fewer pieces.
    ordered = sorted(others, key=_fewer_rays_later)
    found = []
    for fan in fans:
        pieces = [fan]
        for other in ordered:
            pieces = [left for piece in pieces for left in _left_of(piece, other)]
        found.extend(pieces)
    return found


def parts_inside(fans, others):
    """Return a list of fans with the standings of fans that are in one of the others."""
    return [
        leaf[1] for fan in fans for other in others for leaf in leaves_of(divide(fan, other)) if leaf[0] == "in"
    ]


def everything(rooms):
    """Return a list of fans with all standings in so many rooms."""
    return [(room, (0, 0), ALL_PAIRS) for room in range(rooms)]


def least_in(fans):
    """Return the least standing, or None if there is none."""
    # A ray only adds to the sum of both purses: the least one of a fan is that with its base.
    return min([(room, *base) for room, base, _ in fans], key=order_of, default=None)


def order_of(standing):
    """Return what is less for the lesser one of two standings."""
    room, first, second = standing
    return (first + second, first, room)


def order_of_fan(fan):
    """Return what is less for that of two fans whose least standing is the lesser one."""
    return order_of((fan[0], *fan[1]))


def _fewer_rays_later(fan):
    return -len(fan[2])


def _left_of(piece, other):
    leaves = leaves_of(divide(piece, other))
    if all([leaf[0] == "out" for leaf in leaves]):
        return [piece]
    return [leaf[1] for leaf in leaves if leaf[0] == "out"]
