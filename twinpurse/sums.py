"""Sums of an own number and a multiple of each count: tuples of the own number and the multiples."""


def value_at(told, counts):
    """Return what a sum comes to with these counts."""
    return told[0] + sum([multiple * count for multiple, count in zip(told[1:], counts)])


def added(told, other, times):
    """Return a sum with another one added so many times."""
    return tuple([number + times * more for number, more in zip(told, other)])


def raised(told, index):
    """Return the sum with a count, that of the multiple with this index, greater by 1."""
    return (told[0] + told[index], *told[1:])


def is_least(told, number):
    """Whether a sum is at least a number for all counts."""
    return told[0] >= number and all([multiple >= 0 for multiple in told[1:]])


def is_just(told, number):
    """Whether a sum is just a number for all counts."""
    return told[0] == number and not any(told[1:])
