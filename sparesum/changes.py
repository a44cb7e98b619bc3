"""The writes of a change, of an opening and of a taking in: groups of them, behind each of which all is synced."""

from sparesum.arrays import head_block, head_disk, heads_on, new_block
from sparesum.errors import InvalidBlocks, InvalidTold, InvalidWish, NotOpen
from sparesum.heads import mending
from sparesum.lots import head_word, lot_for
from sparesum.meaning import are_contents, are_records, inside, is_blocks, place_of, read, row_word, told_lot, view_of
from sparesum.shapes import is_ascending, is_between, is_list, is_tuple_of


def is_wish(array, value):
    if not is_list(value) or len(value) > array.changes:
        return False
    return all([_is_item(array, item) for item in value]) and is_ascending([item[0] for item in value])


def granted(array, told, wish):
    if not are_records(array, told):
        raise InvalidTold(told)
    if not is_wish(array, wish):
        raise InvalidWish(wish)
    return with_wish(told, wish)


def change_groups(array, blocks, wish):
    if not is_blocks(array, blocks):
        raise InvalidBlocks(blocks)
    if not is_wish(array, wish):
        raise InvalidWish(wish)
    behind = with_wish(read(array, blocks), wish)
    view = view_of(array, blocks)
    if [head for head, content in view if content != 0]:
        raise NotOpen()
    if len(wish) == 0:
        return []
    disks = inside(array, blocks)
    lot = lot_for(array, [record for record, contents in wish])
    right = head_word(array, lot)
    news = [(("new", index), behind[record]) for index, record in enumerate(lot)]
    return [_rows_group(array, disks, news), *[_head_group(array, head, right[head]) for head, content in view],
            *_last_groups(array, blocks, lot, behind)]


def finish_groups(array, blocks):
    records = read(array, blocks)
    mends = [_head_group(array, head, content) for head, content in mending(array, view_of(array, blocks))]
    lot = told_lot(array, blocks)
    if lot is None:
        return mends
    return [*mends, *_last_groups(array, blocks, lot, records)]


def taking_groups(array, blocks, disk):
    """The groups by which a disk that is there is taken in; none if it is in already."""
    if disk in inside(array, blocks):
        return []
    homes = [(("home", record), contents) for record, contents in enumerate(read(array, blocks))]
    heads = [_head_write(array, head, 0) for head in heads_on(array, disk)]
    # The new blocks come last: the disk is in as soon as they are there, and nobody reads them.
    news = [(disk, new_block(array, disk, index), 0) for index in range(array.changes)]
    return [[*_rows_group(array, [disk], homes), *heads], news]


def with_wish(records, wish):
    """What granted tells, of records and a wish that have been judged."""
    behind = list(records)
    for record, contents in wish:
        behind[record] = contents
    return behind


def _is_item(array, value):
    if not is_tuple_of(value, 2) or not is_between(value[0], 0, array.records - 1):
        return False
    return are_contents(array, value[1])


def _last_groups(array, blocks, lot, records):
    """What brings the records of a lot to their home blocks while all heads tell it, and clears the heads."""
    homes = [(("home", record), records[record]) for record in lot]
    clearing = [_head_group(array, head, 0) for head, content in reversed(view_of(array, blocks))]
    return [_rows_group(array, inside(array, blocks), homes), *clearing]


def _rows_group(array, disks, rows):
    """One group that writes rows, each a block as in place_of and the contents of a record, to these disks."""
    group = []
    for block, contents in rows:
        right = row_word(array, contents)
        group.extend([(disk, place_of(array, disk, block), right[disk]) for disk in disks])
    return group


def _head_group(array, head, content):
    return [_head_write(array, head, content)]


def _head_write(array, head, content):
    return (head_disk(array, head), head_block(array, head), content)
