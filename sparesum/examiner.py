"""An examiner: it goes through all that cuts and losses leave of small arrays."""

from sparesum.arrays import all_blocks, blocks_on, head_disk
from sparesum.changes import change_groups, finish_groups, is_wish, with_wish
from sparesum.choices import sets_up_to
from sparesum.disks import with_writes
from sparesum.errors import InvalidBlocks, InvalidContent, InvalidGroups, InvalidLot, InvalidNumber, InvalidWish
from sparesum.errors import TooMany
from sparesum.lots import head_word, is_lot
from sparesum.meaning import inside, is_blocks, read
from sparesum.numbers import power
from sparesum.shapes import is_between, is_integer, is_list, is_tuple_of

MOST_VIEWS = 20000
MOST_BLOCKS = 30000

# How a case can come out, as indices of what examine tells.
OLD = 0
NEW = 1
OTHER = 2


def views_left(array, lot):
    if not is_lot(array, lot):
        raise InvalidLot(lot)
    count = (array.heads * array.contents + 1) * power(2, array.disks)
    if count > MOST_VIEWS:
        raise TooMany(count)
    right = list(head_word(array, lot))
    # Setting and clearing leave the same: right heads, the one whose write is cut, and heads with 0 behind it.
    rows = [right[:at] + [has] + [0] * (array.heads - at - 1)
            for at in range(array.heads) for has in range(array.contents)]
    losses = sets_up_to(list(range(array.disks)), array.lost)
    views = sorted({_view_without(array, row, lost) for row in rows for lost in losses})
    return [list(view) for view in views]


def moments(array, blocks, wish):
    return _moment_count(change_groups(array, blocks, wish))


def left_at(array, blocks, wish, moment, way):
    groups = change_groups(array, blocks, wish)
    if not is_between(moment, 0, _moment_count(groups) - 1):
        raise InvalidNumber(moment)
    if not _is_way(array, way):
        raise InvalidContent(way)
    return _left(_states(blocks, groups)[moment], way)


def examine(array, blocks, wish):
    return _examined(array, blocks, wish, change_groups(array, blocks, wish))


def examine_groups(array, blocks, wish, groups):
    _ask_groups(array, blocks, wish, groups)
    return _examined(array, blocks, wish, groups)


def first_other(array, blocks, wish, groups):
    _ask_groups(array, blocks, wish, groups)
    cases = _cases(array, blocks, groups)
    outcomes = _outcomes(array, blocks, wish, groups, cases)
    return cases[outcomes.index(OTHER)] if OTHER in outcomes else None


def _view_without(array, row, lost):
    """The view of heads with the contents of a row, without those on lost disks, as a tuple."""
    return tuple([(head, has) for head, has in enumerate(row) if head_disk(array, head) not in lost])


def _moment_count(groups):
    return sum([len(group) + 1 for group in groups]) + 1


def _is_way(array, value):
    if isinstance(value, str):
        return value in ("undone", "done")
    return is_between(value, 0, array.contents - 1)


def _states(blocks, groups):
    """For each moment the settled blocks and the pending writes."""
    states = []
    settled = blocks
    for group in groups:
        states.extend([(settled, group[:count]) for count in range(len(group) + 1)])
        settled = with_writes(settled, group)
    return [*states, (settled, [])]


def _left(state, way):
    """The blocks that a cut leaves in this way."""
    settled, pending = state
    if way == "undone":
        return with_writes(settled, [])
    if way == "done":
        return with_writes(settled, pending)
    return with_writes(settled, [(disk, block, way) for disk, block, content in pending])


def _ask_groups(array, blocks, wish, groups):
    if not is_blocks(array, blocks):
        raise InvalidBlocks(blocks)
    if not is_wish(array, wish):
        raise InvalidWish(wish)
    # Too few disks that are in count ahead of wrong groups.
    read(array, blocks)
    disks = inside(array, blocks)
    if not is_list(groups) or not all([_is_group(array, disks, group) for group in groups]):
        raise InvalidGroups(groups)


def _is_group(array, disks, value):
    return is_list(value) and all([_is_write(array, disks, item) for item in value])


def _is_write(array, disks, value):
    """Whether the value is a write to a block of one of these disks."""
    if not is_tuple_of(value, 3) or not is_integer(value[0]) or value[0] not in disks:
        return False
    return is_between(value[1], 0, blocks_on(array, value[0]) - 1) and is_between(value[2], 0, array.contents - 1)


def _cases(array, blocks, groups):
    """All cases, each a moment, a way and the disks that are lost, in their order."""
    disks = inside(array, blocks)
    losses = sets_up_to(disks, len(disks) - array.need)
    ways = ["undone", "done"] + list(range(array.contents))
    count = _moment_count(groups) * len(ways) * len(losses) * all_blocks(array)
    if count > MOST_BLOCKS:
        raise TooMany(count)
    return [(moment, way, lost) for moment in range(_moment_count(groups)) for way in ways for lost in losses]


def _examined(array, blocks, wish, groups):
    outcomes = _outcomes(array, blocks, wish, groups, _cases(array, blocks, groups))
    return (outcomes.count(OLD), outcomes.count(NEW), outcomes.count(OTHER))


def _outcomes(array, blocks, wish, groups, cases):
    """How each of the cases comes out."""
    states = _states(blocks, groups)
    old = read(array, blocks)
    new = with_wish(old, wish)
    # Many cuts leave the same blocks.
    kept = {}
    outcomes = []
    for moment, way, lost in cases:
        left = _left(states[moment], way)
        rows = tuple([None if row is None or disk in lost else tuple(row) for disk, row in enumerate(left)])
        if rows not in kept:
            kept[rows] = _outcome(array, rows, old, new)
        outcomes.append(kept[rows])
    return outcomes


def _outcome(array, left, old, new):
    """How it comes out when these blocks are opened."""
    writes = [write for group in finish_groups(array, left) for write in group]
    told = read(array, with_writes(left, writes))
    if told == old:
        return OLD
    return NEW if told == new else OTHER
