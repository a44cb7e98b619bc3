"""Arrays: their sizes, and where the blocks of their disks stand."""

from math import comb

from sparesum.codes import Code
from sparesum.errors import InvalidChanges, InvalidContents, InvalidDisk, InvalidDisks, InvalidHeads
from sparesum.errors import InvalidLost, InvalidRecords, NoHeads
from sparesum.numbers import greatest_prime, is_prime
from sparesum.shapes import is_between

MOST_DISKS = 12
MOST_RECORDS = 24


class Array:
    """`disks` disks, of which `lost` may be lost, keep `records` records, of which `changes` change at once."""

    def __init__(self, disks, lost, records, changes, contents):
        ask_disks(disks, lost)
        ask_records(records, changes)
        if not is_prime(contents) or contents < disks:
            raise InvalidContents(contents)
        self.disks = disks
        self.lost = lost
        self.records = records
        self.changes = changes
        self.contents = contents
        self.need = disks - lost
        self.lots = comb(records, changes)
        self.prime = _head_prime(contents, self.lots)
        self.symbols = _head_symbols(self.prime, self.lots)
        self.heads = spread(self.need, lost, self.symbols + 1)
        if self.prime is not None and self.prime < self.heads:
            raise NoHeads(self.lots)

    def __eq__(self, other):
        return (isinstance(other, Array) and self.disks == other.disks and self.lost == other.lost
                and self.records == other.records and self.changes == other.changes
                and self.contents == other.contents)


def heads_on(array, disk):
    if not is_disk(array, disk):
        raise InvalidDisk(disk)
    return list(range(disk, array.heads, array.disks))


def blocks_on(array, disk):
    return array.records + len(heads_on(array, disk)) + array.changes


def home_block(array, disk, record):
    if not is_disk(array, disk):
        raise InvalidDisk(disk)
    if not is_between(record, 0, array.records - 1):
        raise InvalidRecords(record)
    return record


def head_block(array, head):
    if not is_between(head, 0, array.heads - 1):
        raise InvalidHeads(head)
    return array.records + head // array.disks


def new_block(array, disk, index):
    heads = heads_on(array, disk)
    if not is_between(index, 0, array.changes - 1):
        raise InvalidChanges(index)
    return array.records + len(heads) + index


def all_blocks(array):
    return array.disks * (array.records + array.changes) + array.heads


def row_code(array):
    return Code(array.contents, array.disks, array.need)


def head_code(array):
    if array.symbols < 2:
        return None
    return Code(array.prime, array.heads, array.symbols)


def ask_disks(disks, lost):
    """Raises what Array raises for these two numbers."""
    if not is_between(disks, 1, MOST_DISKS):
        raise InvalidDisks(disks)
    if not is_between(lost, 0, disks - 1):
        raise InvalidLost(lost)


def ask_records(records, changes):
    """Raises what Array raises for these two numbers."""
    if not is_between(records, 1, MOST_RECORDS):
        raise InvalidRecords(records)
    if not is_between(changes, 1, records):
        raise InvalidChanges(changes)


def spread(need, lost, count):
    """How many heads there have to be so that any `need` of the disks have `count` of them together."""
    # The disks that are lost may be those with the most heads: each has the quotient, rounded up.
    return count + lost * ((count + need - 1) // need)


def is_disk(array, value):
    return is_between(value, 0, array.disks - 1)


def head_disk(array, head):
    """The disk on which a head of the array is."""
    return head % array.disks


def is_whole(blocks):
    """Whether a disk with these blocks, None if it is lost, is in: whether all of them are there."""
    return blocks is not None and None not in blocks


def _head_prime(contents, lots):
    """The prime of the code that the heads' words are of, or None where one symbol tells the lot."""
    if lots < contents:
        return None
    if contents == 2:
        raise NoHeads(lots)
    return greatest_prime(contents)


def _head_symbols(prime, lots):
    if prime is None:
        return min(1, lots - 1)
    symbols = 2
    words = prime * prime
    while words < lots:
        symbols += 1
        words *= prime
    return symbols
