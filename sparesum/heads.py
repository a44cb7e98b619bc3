"""What views of heads tell, whether a change can have left them, and how they are mended."""

from sparesum.errors import InvalidView, TooFew
from sparesum.lots import head_word, lot_of
from sparesum.shapes import are_ascending_points


def is_view(array, value):
    return are_ascending_points(value, array.heads, array.contents)


def told(array, view):
    if not is_view(array, view):
        raise InvalidView(view)
    if len(view) < array.symbols + 1:
        raise TooFew(len(view))
    # Heads are set in ascending order and cleared in descending order: if the head behind the first ones has a
    # content, these are right.
    if 0 in [content for head, content in view[:array.symbols + 1]]:
        return None
    return lot_of(array, view[:array.symbols])


def can_be_left(array, view, lot):
    if not is_view(array, view):
        raise InvalidView(view)
    right = head_word(array, lot)
    behind = 0
    while behind < len(view) and view[behind][1] == right[view[behind][0]]:
        behind += 1
    # The first head that is not right is the one that may have any content.
    return all([content == 0 for head, content in view[behind + 1:]])


def mending(array, view):
    lot = told(array, view)
    if lot is None:
        return [(head, 0) for head, content in reversed(view) if content != 0]
    right = head_word(array, lot)
    return [(head, right[head]) for head, content in view if content != right[head]]
