"""What the blocks of all disks mean: the views of their heads, the rows of their records, and the records."""

from sparesum.arrays import blocks_on, head_block, head_disk, home_block, is_whole, new_block, row_code
from sparesum.codes import data_from, word
from sparesum.errors import InvalidBlock, InvalidBlocks, InvalidTold, TooFew
from sparesum.heads import told
from sparesum.shapes import is_between, is_list, is_tuple_below, is_tuple_of


def is_blocks(array, value):
    if not is_list(value) or len(value) != array.disks:
        return False
    return all([row is None or _are_blocks_of(array, disk, row) for disk, row in enumerate(value)])


def inside(array, blocks):
    if not is_blocks(array, blocks):
        raise InvalidBlocks(blocks)
    return [disk for disk, row in enumerate(blocks) if is_whole(row)]


def view_of(array, blocks):
    disks = inside(array, blocks)
    heads = [head for head in range(array.heads) if head_disk(array, head) in disks]
    return [(head, blocks[head_disk(array, head)][head_block(array, head)]) for head in heads]


def row_of(array, blocks, block):
    disks = inside(array, blocks)
    if not _is_block(array, block):
        raise InvalidBlock(block)
    return _row_on(array, blocks, disks, block)


def read(array, blocks):
    disks = inside(array, blocks)
    if len(disks) < array.need:
        raise TooFew(len(disks))
    lot = told_lot(array, blocks)
    code = row_code(array)
    records = []
    for record in range(array.records):
        row = _row_on(array, blocks, disks, _block_that_tells(lot, record))
        records.append(data_from(code, row))
    return records


def row_word(array, contents):
    if not are_contents(array, contents):
        raise InvalidTold(contents)
    return word(row_code(array), contents)


def told_lot(array, blocks):
    """The lot that the heads on the disks that are in tell, or None; enough disks have to be in."""
    return told(array, view_of(array, blocks))


def are_contents(array, value):
    """Whether the value is a tuple of as many contents as a record has."""
    return is_tuple_below(value, array.contents) and len(value) == array.need


def are_records(array, value):
    """Whether the value is a list of the contents of all records."""
    return is_list(value) and len(value) == array.records and all([are_contents(array, item) for item in value])


def place_of(array, disk, block):
    """The number on a disk of a block ("home", record) or ("new", index)."""
    kind, number = block
    if kind == "home":
        return home_block(array, disk, number)
    return new_block(array, disk, number)


def _are_blocks_of(array, disk, value):
    if not is_list(value) or len(value) != blocks_on(array, disk):
        return False
    return all([content is None or is_between(content, 0, array.contents - 1) for content in value])


def _is_block(array, value):
    if not is_tuple_of(value, 2) or not isinstance(value[0], str):
        return False
    if value[0] == "home":
        return is_between(value[1], 0, array.records - 1)
    return value[0] == "new" and is_between(value[1], 0, array.changes - 1)


def _row_on(array, blocks, disks, block):
    return [(disk, blocks[disk][place_of(array, disk, block)]) for disk in disks]


def _block_that_tells(lot, record):
    """The block whose row has the record, where the heads tell this lot, or None."""
    if lot is None or record not in lot:
        return ("home", record)
    return ("new", lot.index(record))
