"""Two and three values on the fewest disks, one block on each."""

from sparesum.errors import InvalidValue, InvalidView, TooFew
from sparesum.numbers import GREATEST_PRIME
from sparesum.shapes import is_between, is_list

MOST_DISKS = 64

# The next value of each of three values.
NEXT = (1, 2, 0)


def two_told(view):
    _ask_view(view)
    others = len([has for has in view if has != 0])
    return 1 if others > len(view) - others else 0


def two_mending(view):
    return _two_writes(view, two_told(view))


def two_steps(view, value):
    _ask_view(view)
    if not is_between(value, 0, 1):
        raise InvalidValue(value)
    return _two_writes(view, value)


def three_steps(view, new):
    told, mends = _three(view)
    if len(mends) > 0:
        raise InvalidView(view)
    if not is_between(new, 0, 2):
        raise InvalidValue(new)
    if new == told:
        return []
    steps = _writes_of(view, new)
    return steps if new == NEXT[told] else steps[::-1]


def three_can_be_left(view):
    _ask_view(view)
    if len(view) == 1:
        raise TooFew(len(view))
    return len(_left_from(view)) > 0


def three_told(view):
    told, _ = _three(view)
    return told


def three_mending(view):
    _, mends = _three(view)
    return mends


def _ask_view(view):
    if not is_list(view) or not 1 <= len(view) <= MOST_DISKS:
        raise InvalidView(view)
    if not all([is_between(has, 0, GREATEST_PRIME - 1) for has in view]):
        raise InvalidView(view)


def _writes_of(view, value):
    """The writes of this content at each index that has another one."""
    return [(index, value) for index, has in enumerate(view) if has != value]


def _two_writes(view, value):
    # Any content but 0 tells 1.
    return [(index, value) for index, has in enumerate(view) if (has == 0) != (value == 0)]


def _left_from(view):
    """The values u by which the view can be told, with some index."""
    return [value for value in (0, 1, 2) if _can_be_left_from(view, value)]


def _can_be_left_from(view, value):
    # The first content that is not the next value is the one that may be anything.
    torn = 0
    while torn < len(view) and view[torn] == NEXT[value]:
        torn += 1
    return all([has == value for has in view[torn + 1:]])


def _three(view):
    """The value that is told, and the writes of the mending ahead of it."""
    if not three_can_be_left(view):
        raise InvalidView(view)
    if all([has == view[0] for has in view]):
        return view[0], []
    if len(view) == 2:
        return _three_of_two(view[0], view[1])
    told = NEXT[_left_from(view)[0]]
    return told, _writes_of(view, told)


def _three_of_two(first, second):
    if first > 2:
        return second, [(0, second)]
    if second > 2 or first == NEXT[second]:
        return first, [(1, first)]
    # The second is the next value of the first: a change between them would have come the other way.
    return NEXT[second], []
