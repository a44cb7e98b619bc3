"""The disks of an array: what is settled and what is pending on them, and what cuts and losses leave."""

from sparesum.arrays import blocks_on, is_disk, is_whole
from sparesum.errors import InvalidBlock, InvalidContent, InvalidDisk, InvalidLeft
from sparesum.errors import IsLost, NotLeft, NotLost, TooManyLost
from sparesum.shapes import is_between, is_integer, is_list, is_tuple_of


class Disks:
    """The disks of `array`: at first all are in, and each block has the content 0."""

    def __init__(self, array):
        self.array = array
        # For each disk None, if it is lost, or its blocks, None for one that is not there.
        self._settled = [[0] * blocks_on(array, disk) for disk in range(array.disks)]
        self._pending = []

    def lost(self):
        return [disk for disk, blocks in enumerate(self._settled) if blocks is None]

    def inside(self):
        return [disk for disk, blocks in enumerate(self._settled) if is_whole(blocks)]

    def settled(self):
        return with_writes(self._settled, [])

    def now(self):
        return with_writes(self._settled, self._pending)

    def pending(self):
        return list(self._pending)

    def write(self, disk, block, content):
        self._ask_there(disk)
        if not is_between(block, 0, len(self._settled[disk]) - 1):
            raise InvalidBlock(block)
        if not is_between(content, 0, self.array.contents - 1):
            raise InvalidContent(content)
        self._pending.append((disk, block, content))

    def sync(self):
        count = len(self._pending)
        self._settle(self._pending)
        return count

    def lose(self, disk):
        self._ask_there(disk)
        left = [other for other in self.inside() if other != disk]
        count = self.array.disks - len(left)
        if count > self.array.lost:
            raise TooManyLost(count)
        self._settled[disk] = None
        self._pending = [write for write in self._pending if write[0] != disk]

    def replace(self, disk):
        if not is_disk(self.array, disk):
            raise InvalidDisk(disk)
        if self._settled[disk] is not None:
            raise NotLost(disk)
        self._settled[disk] = [None] * blocks_on(self.array, disk)

    def cut(self, left):
        if not _are_left(left):
            raise InvalidLeft(left)
        places = [write[:2] for write in self._pending]
        for item in left:
            if item[:2] not in places or not self._may_have(item):
                raise NotLeft(item)
        self._settle(left)

    def twin(self):
        """Disks of the same array on which all is as it is on these; each of both goes on by itself."""
        other = Disks(self.array)
        other._settled = self.settled()
        other._pending = self.pending()
        return other

    def _ask_there(self, disk):
        if not is_disk(self.array, disk):
            raise InvalidDisk(disk)
        if self._settled[disk] is None:
            raise IsLost(disk)

    def _may_have(self, item):
        """Whether a cut may leave a block with a pending write with this content."""
        disk, block, content = item
        return content == self._settled[disk][block] or is_between(content, 0, self.array.contents - 1)

    def _settle(self, writes):
        self._settled = with_writes(self._settled, writes)
        self._pending = []


def with_writes(settled, writes):
    """The blocks of all disks behind these writes, in lists of their own."""
    rows = [None if blocks is None else list(blocks) for blocks in settled]
    for disk, block, content in writes:
        rows[disk][block] = content
    return rows


def _are_left(value):
    """Whether the value is a list of places, each one once, with contents, whatever integers these are."""
    if not is_list(value) or not all([_is_left(item) for item in value]):
        return False
    return len({item[:2] for item in value}) == len(value)


def _is_left(value):
    if not is_tuple_of(value, 3) or not is_integer(value[0]) or not is_integer(value[1]):
        return False
    return value[2] is None or is_integer(value[2])
