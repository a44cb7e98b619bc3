"""A store at work: it opens, grants wishes and takes disks in, step by step, through cuts and losses."""

from sparesum.arrays import is_disk
from sparesum.changes import change_groups, finish_groups, is_wish, taking_groups
from sparesum.errors import Busy, InvalidDisk, InvalidWish, IsLost, NotOpen, NoWork
from sparesum.meaning import read


class Store:
    """Keeps the records of `disks.array` on these disks."""

    def __init__(self, disks):
        self.disks = disks
        self._answered = []
        self._work = ("opening",)
        # The steps of the work that are left, or None until they are worked out.
        self._steps = None

    def work(self):
        if self._is_at("wish"):
            return ("wish", list(self._work[1]))
        return self._work

    def answered(self):
        return [list(wish) for wish in self._answered]

    def step(self):
        if self._work is None:
            raise NoWork()
        if self._steps is None:
            self._steps = self._first_steps()
        step = self._steps.pop(0)
        if step[0] == "write":
            self.disks.write(step[1], step[2], step[3])
        elif step[0] == "sync":
            self.disks.sync()
        else:
            self._end()
        return step

    def finish(self):
        self.step()
        count = 1
        while self._work is not None:
            self.step()
            count += 1
        return count

    def records(self):
        self._ask_open()
        return read(self.disks.array, self.disks.now())

    def begin(self, wish):
        self._ask_open()
        array = self.disks.array
        if not is_wish(array, wish):
            raise InvalidWish(wish)
        self._ask_idle()
        groups = change_groups(array, self.disks.settled(), wish)
        self._turn_to(("wish", list(wish)), _steps_of(groups, ("done",)))

    def cut(self, left):
        self.disks.cut(left)
        self._turn_to(("opening",), None)

    def lose(self, disk):
        self.disks.lose(disk)
        if self._work == ("taking", disk):
            self._turn_to(None, None)
        elif self._steps is not None:
            # A new disk in its place is not in, so that it gets none of these writes either.
            self._steps = [step for step in self._steps if step[0] != "write" or step[1] != disk]

    def replace(self, disk):
        self.disks.replace(disk)

    def take_in(self, disk):
        self._ask_open()
        if not is_disk(self.disks.array, disk):
            raise InvalidDisk(disk)
        self._ask_idle()
        if disk in self.disks.lost():
            raise IsLost(disk)
        self._turn_to(("taking", disk), None)

    def twin(self):
        """A store that is as this one is, on disks of its own; each of both goes on by itself."""
        other = Store(self.disks.twin())
        other._answered = list(self._answered)
        other._work = self._work
        other._steps = None if self._steps is None else list(self._steps)
        return other

    def _is_at(self, kind):
        return self._work is not None and self._work[0] == kind

    def _ask_open(self):
        if self._is_at("opening"):
            raise NotOpen()

    def _ask_idle(self):
        if self._work is not None:
            raise Busy(self.work())

    def _turn_to(self, work, steps):
        self._work = work
        self._steps = steps

    def _end(self):
        if self._is_at("wish"):
            self._answered.append(self._work[1])
        self._turn_to(None, None)

    def _first_steps(self):
        """The steps of an opening or a taking in, by what is settled as its first step is done."""
        array = self.disks.array
        if self._is_at("opening"):
            return _steps_of(finish_groups(array, self.disks.settled()), ("open",))
        disk = self._work[1]
        return _steps_of(taking_groups(array, self.disks.settled(), disk), ("in", disk))


def _steps_of(groups, last):
    steps = []
    for group in groups:
        steps.extend([("write", disk, block, content) for disk, block, content in group])
        steps.append(("sync",))
    return [*steps, last]
