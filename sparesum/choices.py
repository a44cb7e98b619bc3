"""Sets of some of several things."""

from itertools import combinations


def sets_of(things, size):
    """All sets of so many of these things, as lists, in ascending order if the things ascend."""
    return [list(some) for some in combinations(things, size)]


def sets_up_to(things, most):
    """The sets of none, of one, and so on up to `most` of these things, smaller sets first."""
    return [some for size in range(most + 1) for some in sets_of(things, size)]
