"""Judging what values are made of: all modules judge their arguments by these."""


def is_integer(value):
    return isinstance(value, int) and not isinstance(value, bool)


def is_between(value, low, high):
    """Whether the value is an integer from low to high."""
    return is_integer(value) and low <= value <= high


def is_list(value):
    """Whether the value may stand where a list is expected: a tuple may, too."""
    return isinstance(value, (list, tuple))


def is_tuple_below(value, limit):
    """Whether the value is a tuple of integers from 0 to limit - 1."""
    return isinstance(value, tuple) and all([is_between(item, 0, limit - 1) for item in value])


def is_point(value, places, limit):
    """Whether the value is a tuple of an integer below places and one below limit, both from 0 on."""
    if not isinstance(value, tuple) or len(value) != 2:
        return False
    return is_between(value[0], 0, places - 1) and is_between(value[1], 0, limit - 1)


def are_points(value, places, limit):
    """Whether the value is a list of points, in any order."""
    return is_list(value) and all([is_point(item, places, limit) for item in value])


def is_ascending(items):
    """Whether the items of a list or tuple stand in order, without equal ones."""
    return all([low < high for low, high in zip(items, items[1:])])
