"""Of which kind a value is: integers, and tuples of a length, as all modules understand them."""


def is_integer(value):
    # In Python True and False are integers, in this package they are not.
    return isinstance(value, int) and not isinstance(value, bool)


def is_between(value, low, high):
    """Whether the value is an integer from low to high."""
    return is_integer(value) and low <= value <= high


def is_count(value):
    """Whether the value is an integer from 0 on."""
    return is_integer(value) and value >= 0


def is_tuple_of(value, size):
    """Whether the value is a tuple of just so many items."""
    return isinstance(value, tuple) and len(value) == size


def is_tuple_up_to(value, most):
    """Whether the value is a tuple of none to so many items."""
    return isinstance(value, tuple) and len(value) <= most


def are_counts(value, size):
    """Whether the value is a tuple of just so many integers from 0 on."""
    return is_tuple_of(value, size) and all(is_count(number) for number in value)
