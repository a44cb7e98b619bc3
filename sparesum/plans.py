"""Handed plans of what a store does on the blocks that are left, and where they break."""

from sparesum.errors import Broken, InvalidBlock, InvalidBlocks, InvalidContents, InvalidEntries, InvalidNumber
from sparesum.errors import InvalidPaths, InvalidRests, InvalidValue, TooMany
from sparesum.numbers import power
from sparesum.shapes import is_between, is_integer, is_list, is_point, is_tuple_of

MOST_BLOCKS = 16
MOST_CONTENTS = 64
MOST_FILLINGS = 20000
MOST_VALUES = 16
MOST_WRITES = 20


class Plan:
    """`blocks` blocks of `contents` contents keep the values from 0 to `kept` - 1."""

    def __init__(self, blocks, contents, kept, entries, rests, paths):
        if not is_between(blocks, 1, MOST_BLOCKS):
            raise InvalidBlocks(blocks)
        if not is_between(contents, 2, MOST_CONTENTS):
            raise InvalidContents(contents)
        fillings = power(contents, blocks)
        if fillings > MOST_FILLINGS:
            raise TooMany(fillings)
        if not is_between(kept, 1, MOST_VALUES):
            raise InvalidValue(kept)
        if not _are_numbers(entries, fillings, kept):
            raise InvalidEntries(entries)
        if not _are_numbers(rests, kept, fillings) or [entries[number] for number in rests] != list(range(kept)):
            raise InvalidRests(rests)
        if not _are_paths(paths, blocks, contents, kept):
            raise InvalidPaths(paths)
        self.blocks = blocks
        self.contents = contents
        self.kept = kept
        self.entries = tuple(entries)
        self.rests = tuple(rests)
        self.paths = tuple([tuple([tuple(path) for path in row]) for row in paths])

    def __eq__(self, other):
        return (isinstance(other, Plan) and self.blocks == other.blocks and self.contents == other.contents
                and self.kept == other.kept and self.entries == other.entries and self.rests == other.rests
                and self.paths == other.paths)


def line_of(plan, number, block):
    if not is_between(number, 0, len(plan.entries) - 1):
        raise InvalidNumber(number)
    if not is_between(block, 0, plan.blocks - 1):
        raise InvalidBlock(block)
    return [_behind(plan, number, block, content) for content in range(plan.contents)]


def is_break(plan, value):
    if not is_tuple_of(value, 4) or not _is_value(plan, value[0]) or not _is_value(plan, value[1]):
        return False
    old, new, index, content = value
    path = plan.paths[old][new]
    fillings = _fillings(plan, old, new)
    if not is_between(index, 0, len(path)) or not is_integer(content):
        return False
    if index == len(path):
        return content == 0 and plan.entries[fillings[index]] != new
    if not is_between(content, 0, plan.contents - 1):
        return False
    return _is_wrong(plan, old, new, _behind(plan, fillings[index], path[index][0], content))


def first_break(plan):
    for old in range(plan.kept):
        for new in range(plan.kept):
            found = _first_on_path(plan, old, new)
            if found is not None:
                return found
    return None


def turning(plan, old, new):
    if not _is_value(plan, old):
        raise InvalidValue(old)
    if not _is_value(plan, new) or new == old:
        raise InvalidValue(new)
    found = first_break(plan)
    if found is not None:
        raise Broken(found)
    fillings = _fillings(plan, old, new)
    # A plan without a break tells the old value at its rest, and the new one at the end of the path.
    at = [plan.entries[number] for number in fillings[1:]].index(new)
    block = plan.paths[old][new][at][0]
    return (line_of(plan, fillings[at], block)[0], block)


def line_count(plan):
    return plan.blocks * power(plan.contents, plan.blocks - 1)


def _are_numbers(value, length, limit):
    """Whether the value is a list of so many integers below the limit, from 0 on."""
    if not is_list(value) or len(value) != length:
        return False
    return all([is_between(item, 0, limit - 1) for item in value])


def _are_paths(value, blocks, contents, kept):
    if not is_list(value) or len(value) != kept:
        return False
    for old, row in enumerate(value):
        if not is_list(row) or len(row) != kept:
            return False
        for new, path in enumerate(row):
            if not _is_path(path, blocks, contents, 0 if old == new else MOST_WRITES):
                return False
    return True


def _is_path(value, blocks, contents, most):
    if not is_list(value) or len(value) > most:
        return False
    return all([is_point(write, blocks, contents) for write in value])


def _is_value(plan, value):
    return is_between(value, 0, plan.kept - 1)


def _behind(plan, number, block, content):
    """The number of the filling behind a write."""
    weight = power(plan.contents, plan.blocks - 1 - block)
    figure = number // weight % plan.contents
    return number + (content - figure) * weight


def _fillings(plan, old, new):
    """The numbers of the fillings from the rest of old on, behind none, one, and so on up to all writes of the path."""
    fillings = [plan.rests[old]]
    for block, content in plan.paths[old][new]:
        fillings.append(_behind(plan, fillings[-1], block, content))
    return fillings


def _is_wrong(plan, old, new, number):
    """Whether a filling that a torn write leaves tells neither the old value nor the new one."""
    return plan.entries[number] not in (old, new)


def _first_on_path(plan, old, new):
    path = plan.paths[old][new]
    fillings = _fillings(plan, old, new)
    for index, (block, _) in enumerate(path):
        for content, number in enumerate(line_of(plan, fillings[index], block)):
            if _is_wrong(plan, old, new, number):
                return (old, new, index, content)
    if plan.entries[fillings[-1]] != new:
        return (old, new, len(path), 0)
    return None
