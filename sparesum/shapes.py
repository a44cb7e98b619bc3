"""Judging what values are made of: all modules judge their arguments by these."""


def is_integer(value):
    return isinstance(value, int) and not isinstance(value, bool)


def is_between(value, low, high):
    """Whether the value is an integer from low to high."""
    return is_integer(value) and low <= value <= high


def is_list(value):
    """Whether the value may stand where a list is expected: a tuple may, too."""
    return isinstance(value, (list, tuple))


def is_tuple_of(value, length):
    """Whether the value is a tuple with so many items, whatever these are."""
    return isinstance(value, tuple) and len(value) == length


def is_tuple_below(value, limit):
    """Whether the value is a tuple of integers from 0 to limit - 1."""
    return isinstance(value, tuple) and all([is_between(item, 0, limit - 1) for item in value])


def is_point(value, places, limit):
    """Whether the value is a tuple of an integer below places and one below limit, both from 0 on."""
    if not is_tuple_of(value, 2):
        return False
    return is_between(value[0], 0, places - 1) and is_between(value[1], 0, limit - 1)


def are_points(value, places, limit):
    """Whether the value is a list of points, in any order."""
    return is_list(value) and all([is_point(item, places, limit) for item in value])


def are_ascending_points(value, places, limit):
    """Whether the value is a list of points whose first integers ascend."""
    return are_points(value, places, limit) and is_ascending([point[0] for point in value])


def are_ascending_numbers(value, limit):
    """Whether the value is a list of integers from 0 to limit - 1 that ascend."""
    return is_list(value) and all([is_between(item, 0, limit - 1) for item in value]) and is_ascending(value)


def is_ascending(items):
    """Whether the items of a list or tuple stand in order, without equal ones."""
    return all([low < high for low, high in zip(items, items[1:])])
