"""What tells, of any value, whether it is an integer, or a tuple of integers as they are asked for."""


def is_integer(value):
    """Whether a value is an integer."""
    # To Python True and False are integers, too; here they are none.
    return isinstance(value, int) and not isinstance(value, bool)


def is_integer_between(value, least, most):
    """Whether a value is an integer from a least one to a greatest one."""
    return is_integer(value) and least <= value <= most


def is_integers(value, many):
    """Whether a value is a tuple of so many integers."""
    return isinstance(value, tuple) and len(value) == many and all([is_integer(thing) for thing in value])


def is_ascending(value, many):
    """Whether a value is an ascending tuple of unlike integers from 0 on, all less than so many."""
    if not isinstance(value, tuple) or not all([is_integer_between(thing, 0, many - 1) for thing in value]):
        return False
    return all([one < other for one, other in zip(value, value[1:])])
