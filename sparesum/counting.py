"""The numbers from both sides: how many blocks are enough, and how many are needed."""

from math import comb

from sparesum.arrays import MOST_DISKS, Array, all_blocks, ask_disks, ask_records, spread
from sparesum.choices import sets_of
from sparesum.errors import InvalidBlocks, InvalidContents, InvalidDisks, InvalidHeads, InvalidLost, InvalidPending
from sparesum.errors import InvalidSymbols
from sparesum.numbers import GREATEST_PRIME, MOST_SYMBOLS, power
from sparesum.shapes import is_between, is_list

MOST_BLOCKS = 1000
MOST_HEADS = 2000
MOST_PENDING = 64


def enough(disks, lost, records, changes, contents):
    return all_blocks(Array(disks, lost, records, changes, contents))


def wishes(need, records, changes, contents):
    if not is_between(need, 1, MOST_DISKS):
        raise InvalidDisks(need)
    ask_records(records, changes)
    _ask_contents(contents)
    others = power(contents, need) - 1
    total = 0
    changed = 1
    for count in range(1, changes + 1):
        changed *= others
        total += comb(records, count) * changed
    return total


def lines_allow(blocks, need, records, changes, contents):
    if not is_between(blocks, 1, MOST_BLOCKS):
        raise InvalidBlocks(blocks)
    pairs = wishes(need, records, changes, contents)
    lines = 2 * blocks
    # Both sides have a power of q. What one of them has more is multiplied in, until the other side is surely less.
    more = need * records - (blocks - 1)
    while more > 0 and pairs <= lines:
        pairs *= contents
        more -= 1
    while more < 0 and lines < pairs:
        lines *= contents
        more += 1
    return pairs <= lines


def least_told(disks, lost, records, changes, contents):
    ask_disks(disks, lost)
    ask_records(records, changes)
    _ask_contents(contents)
    need = disks - lost
    lots = comb(records, changes)
    rows = records + changes
    told = []
    if changes == records:
        if contents > 4 * need * records and contents >= 7:
            told.append(disks * rows + lost + 1)
    elif power(contents, need) > changes * lots:
        if (lots - 1) * contents >= 2 * need * rows:
            told.append(disks * rows + lost + 1)
        symbols = _most_symbols(lots, need * rows, contents)
        if symbols > 0:
            told.append(disks * rows + spread(need, lost, symbols + 1))
    return max(told, default=None)


def is_exact(disks, lost, records, changes, contents):
    return enough(disks, lost, records, changes, contents) == least_told(disks, lost, records, changes, contents)


def heads_for(need, lost, symbols, pending):
    if not is_between(need, 1, MOST_DISKS):
        raise InvalidDisks(need)
    if not is_between(lost, 0, MOST_DISKS - 1):
        raise InvalidLost(lost)
    _ask_symbols(symbols)
    _ask_pending(pending)
    return spread(need, lost, symbols + pending)


def syncs_for(heads, pending):
    if not is_between(heads, 1, MOST_HEADS):
        raise InvalidHeads(heads)
    _ask_pending(pending)
    return 2 * ((heads + pending - 1) // pending) + 2


def is_enough_in_turn(order, disks, lost, symbols, pending):
    ask_disks(disks, lost)
    if not _is_order(order, disks):
        raise InvalidHeads(order)
    _ask_symbols(symbols)
    _ask_pending(pending)
    heads = [[at for at, one in enumerate(order) if one == disk] for disk in range(disks)]
    return all([_is_enough_on([heads[disk] for disk in left], symbols, pending)
                for left in sets_of(list(range(disks)), disks - lost)])


def _ask_contents(contents):
    # Contents need not be a prime for what is counted here.
    if not is_between(contents, 2, GREATEST_PRIME):
        raise InvalidContents(contents)


def _ask_symbols(symbols):
    if not is_between(symbols, 1, MOST_SYMBOLS):
        raise InvalidSymbols(symbols)


def _ask_pending(pending):
    if not is_between(pending, 1, MOST_PENDING):
        raise InvalidPending(pending)


def _most_symbols(lots, blocks, contents):
    """The greatest j for which there are so many lots that j symbols are needed, or 0."""
    symbols = 0
    words = 1
    while lots > 2 * (blocks + symbols + 1) * words:
        symbols += 1
        words *= contents
    return symbols


def _is_order(value, disks):
    if not is_list(value) or len(value) > MOST_HEADS:
        return False
    return all([is_between(disk, 0, disks - 1) for disk in value])


def _is_enough_on(heads, symbols, pending):
    """Whether heads do on the disks that are left, of which each has these indices in order, ascending."""
    # None of the first heads on all these disks is behind the first ones of its own disk.
    first = sorted([at for row in heads for at in row[:symbols]])
    if len(first) < symbols:
        return False
    last = max([row[-1] for row in heads if len(row) > 0])
    return last - first[symbols - 1] >= pending
