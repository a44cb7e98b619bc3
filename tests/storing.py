"""What the tests of stores, and of what uses them, share: stores in some states, and a model of the tests' own."""

import copy
import itertools

from checks import caught
from sparesum.arrays import Array
from sparesum.disks import Disks
from sparesum.errors import Busy, IsLost, NotLost, NotOpen, NoWork, TooManyLost
from sparesum.stores import Store

TINY = [(1, 0, 1, 1, 2), (1, 0, 2, 1, 3), (2, 1, 1, 1, 2), (2, 1, 1, 1, 3), (2, 1, 2, 1, 3), (3, 2, 1, 1, 3)]
SOME = TINY + [(2, 1, 2, 1, 5), (3, 1, 2, 2, 5), (3, 2, 4, 2, 7), (4, 1, 3, 2, 7), (4, 1, 6, 3, 13), (2, 0, 6, 2, 7), (4, 2, 3, 2, 7),
               (5, 3, 2, 2, 5), (3, 1, 8, 4, 13), (2, 1, 6, 2, 11), (12, 6, 5, 2, 13)]


def disks_state(disks):
    return [disks.lost(), disks.inside(), disks.settled(), disks.now(), disks.pending()]


def state(store):
    """All that a store and its disks tell."""
    told = caught(store.records)
    return [store.work(), store.answered(), store.records() if told is None else type(told), disks_state(store.disks)]


def all_steps(store):
    """The steps to the end of the work."""
    steps = []
    while store.work() is not None:
        steps.append(store.step())
    return steps


def future(store):
    """What a store and its disks tell, and the steps that are still to come."""
    return [state(store), all_steps(copy.deepcopy(store))]


def steps_of(groups, last):
    steps = []
    for group in groups:
        steps += [("write", *write) for write in group] + [("sync",)]
    return steps + [last]


def filled(own, blocks, lost=()):
    """Disks of an array with these blocks settled."""
    disks = Disks(Array(own.n, own.f, own.m, own.k, own.q))
    for disk, row in enumerate(blocks):
        if row is not None:
            for block, content in enumerate(row):
                disks.write(disk, block, content)
    disks.sync()
    for disk, row in enumerate(blocks):
        if row is None or disk in lost:
            disks.lose(disk)
    return disks


def opened(own, records, lost=()):
    """A store that is open, and tells these records, with these disks lost."""
    store = Store(filled(own, own.good(records, 1), lost))
    store.finish()
    return store


def changing(own, records, start=None):
    """A wish of as many records as may change, which changes each of them."""
    first = own.m - own.k if start is None else start
    return [(record, tuple((item + 1) % own.q for item in records[record])) for record in range(first, first + own.k)]


def ways_to_cut(own, disks):
    """All lists by which a cut may leave blocks with pending writes: each as it is settled, or with any content."""
    places = sorted({write[:2] for write in disks.pending()})
    for contents in itertools.product([None, *range(own.q)], repeat=len(places)):
        yield [(*place, content) for place, content in zip(places, contents) if content is not None]


class Model:
    """A store by the words of [101] to [104] and [111]; its errors are tuples of a class and what they keep."""

    def __init__(self, own, disks):
        self.own, self.disks = own, disks
        self.work, self.steps, self.answered = ("opening",), None, []

    def now(self):
        return self.disks.rows(self.disks.writes)

    def told(self):
        records = NotOpen if self.work == ("opening",) else self.own.read(self.now())
        return [self.work, self.answered, records, self.disks.told()]

    def step(self):
        if self.work is None:
            return (NoWork,)
        if self.steps is None:
            settled = self.disks.rows([])
            if self.work == ("opening",):
                self.steps = steps_of(self.own.finish(settled), ("open",))
            else:
                self.steps = steps_of(self.own.taking(settled, self.work[1]), ("in", self.work[1]))
        step, self.steps = self.steps[0], self.steps[1:]
        if step[0] == "write":
            self.disks.writes.append(step[1:])
        elif step[0] == "sync":
            self.disks.settle(self.disks.writes)
        else:
            if step == ("done",):
                self.answered = self.answered + [self.work[1]]
            self.work, self.steps = None, None
        return step

    def begin(self, wish):
        if self.work == ("opening",):
            return (NotOpen,)
        if self.work is not None:
            return (Busy, self.work)
        self.work = ("wish", list(wish))
        self.steps = steps_of(self.own.change(self.disks.rows([]), wish) if wish else [], ("done",))

    def cut(self, left):
        self.disks.settle(left)
        self.work, self.steps = ("opening",), None

    def lose(self, disk):
        if disk not in self.disks.there:
            return (IsLost, disk)
        if not self.disks.may_lose(disk):
            return (TooManyLost, self.own.f + 1)
        self.disks.lose(disk)
        if self.work == ("taking", disk):
            self.work, self.steps = None, None
        if self.steps is not None:
            self.steps = [step for step in self.steps if step[:2] != ("write", disk)]

    def replace(self, disk):
        if disk in self.disks.there:
            return (NotLost, disk)
        self.disks.replace(disk)

    def take_in(self, disk):
        if self.work == ("opening",):
            return (NotOpen,)
        if self.work is not None:
            return (Busy, self.work)
        if disk not in self.disks.there:
            return (IsLost, disk)
        self.work, self.steps = ("taking", disk), None
