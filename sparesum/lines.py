"""Lines of text: the word of each, and what stands behind it, as a store needs it."""

from sparesum.arrays import blocks_on
from sparesum.shapes import is_list

LETTERS = "abcdefghijklmnopqrstuvwxyz"
FIGURES = "0123456789"
MOST_SIGNS = 12
MOST_FIGURES = 3


def are_names(array, value):
    """Whether the value is a list of different names, one for each record."""
    if not is_list(value) or len(value) != array.records:
        return False
    return all([_is_name(item) for item in value]) and len(set(value)) == len(value)


def order_of(names, array, line):
    """The word of a line and what is behind it, or None for what is no line."""
    if not isinstance(line, str):
        return None
    words = line.split(" ")
    if words[0] not in READERS:
        return None
    reader = READERS[words[0]]
    behind = reader(names, array, words[1:])
    return None if behind is None else (words[0], behind)


def _is_name(value):
    if not isinstance(value, str) or not 1 <= len(value) <= MOST_SIGNS or value[0] not in LETTERS:
        return False
    return all([sign in LETTERS or sign in FIGURES for sign in value])


def _number(word, limit):
    """The number below the limit that a word tells, or None."""
    if not 1 <= len(word) <= MOST_FIGURES or not all([sign in FIGURES for sign in word]):
        return None
    if word[0] == "0" and len(word) > 1:
        return None
    return int(word) if int(word) < limit else None


# The readers tell what stands behind the word of a line, or None where this may not stand there.


def _nothing(names, array, words):
    return () if len(words) == 0 else None


def _wish(names, array, words):
    """The wish of pairs, with its records in ascending order."""
    size = 1 + array.need
    if len(words) % size != 0 or not 1 <= len(words) // size <= array.changes:
        return None
    items = [_pair(names, array, words[at:at + size]) for at in range(0, len(words), size)]
    if None in items or len({item[0] for item in items}) < len(items):
        return None
    return sorted(items)


def _pair(names, array, words):
    figures = [_number(word, array.contents) for word in words[1:]]
    if words[0] not in names or None in figures:
        return None
    return (names.index(words[0]), tuple(figures))


def _shown(names, array, words):
    """The tuple of the one record that is named, or of none."""
    if len(words) > 1 or not all([word in names for word in words]):
        return None
    return tuple([names.index(word) for word in words])


def _left(names, array, words):
    """What a cut leaves, in the order of the words."""
    if len(words) % 3 != 0:
        return None
    items = [_left_item(array, words[at:at + 3]) for at in range(0, len(words), 3)]
    return None if None in items else items


def _left_item(array, words):
    disk = _number(words[0], array.disks)
    block = None if disk is None else _number(words[1], blocks_on(array, disk))
    if block is None:
        return None
    if words[2] == "-":
        return (disk, block, None)
    content = _number(words[2], array.contents)
    return None if content is None else (disk, block, content)


def _disk(names, array, words):
    disk = _number(words[0], array.disks) if len(words) == 1 else None
    return None if disk is None else (disk,)


READERS = {
    "set": _wish, "begin": _wish, "step": _nothing, "finish": _nothing, "show": _shown, "disks": _nothing,
    "cut": _left, "lose": _disk, "replace": _disk, "take": _disk, "why": _nothing, "lacks": _disk,
}
