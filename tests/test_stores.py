"""[101] to [105], [111], [112]: stores at work, held against a model of the tests' own."""

import copy
import itertools
import random
import unittest

from checks import Checks, caught, no_integers, no_lists
from reckoning import OwnBlocks, OwnDisks, subsets, written
from storing import (SOME, TINY, Model, all_steps, changing, disks_state, filled, future, opened, state, steps_of,
                     ways_to_cut)
from sparesum.arrays import Array
from sparesum.disks import Disks
from sparesum.errors import (Busy, InvalidDisk, InvalidLeft, InvalidWish, IsLost, NotLeft, NotLost, NotOpen, NoWork,
                             TooManyLost)
from sparesum.stores import Store


class Base(Checks, unittest.TestCase):
    def check_refused(self, store, error, call, *values):
        """The call raises this error with these attributes, and changes nothing of what is told or still to come."""
        before = future(store)
        found = caught(call, *values)
        self.assertIs(type(found), error[0], values)
        self.assertEqual(tuple(vars(found).values()), error[1:])
        self.assertEqual(future(store), before)
        return found

    def check_in(self, store, disk, is_in):
        self.assertEqual(disk in store.disks.inside(), is_in)


class Steps(Base):
    def test_example(self):
        store = Store(Disks(Array(2, 1, 1, 1, 5)))
        self.assertEqual([store.work(), store.finish(), store.records()], [("opening",), 1, [(0,)]])
        self.assertIsNone(store.begin([(0, (3,))]))
        self.assertEqual([store.step() for _ in range(4)],
                         [("write", 0, 2, 3), ("write", 1, 2, 3), ("sync",), ("write", 0, 1, 1)])
        self.assertIsNone(store.cut([(0, 1, 4)]))
        self.assertIsNone(store.lose(1))
        self.assertEqual([store.step() for _ in range(7)],
                         [("write", 0, 1, 1), ("sync",), ("write", 0, 0, 3), ("sync",), ("write", 0, 1, 0), ("sync",), ("open",)])
        self.assertEqual([store.records(), store.answered(), store.work()], [[(3,)], [], None])
        self.check_refused(store, (NoWork,), store.step)

    def test_the_steps_of_a_taking_in(self):
        disks = Disks(Array(2, 1, 1, 1, 5))
        store = Store(disks)
        found = [store.finish(), store.begin([(0, (3,))]), store.finish(), store.lose(0), store.replace(0), store.take_in(0)]
        self.assertEqual(found, [1, None, 15, None, None, None])
        self.assertEqual([store.step() for _ in range(4)],
                         [("write", 0, 0, 3), ("write", 0, 1, 0), ("sync",), ("write", 0, 2, 0)])
        self.assertEqual(disks.inside(), [1])
        self.assertEqual([store.step(), store.step(), disks.inside()], [("sync",), ("in", 0), [0, 1]])
        self.check_refused(store, (InvalidDisk, 2), store.take_in, 2)

    def test_a_new_store(self):
        for numbers in SOME:
            own = OwnBlocks(*numbers)
            disks = Disks(Array(*numbers))
            store = Store(disks)
            self.assertIs(store.disks, disks)
            self.check_same([("opening",), []], [store.work(), store.answered()])
            self.check_refused(store, (NotOpen,), store.records)
            self.assertEqual([store.step(), store.work(), store.records()], [("open",), None, [(0,) * own.d] * own.m])

    def check_steps(self, store, wanted):
        """The steps are these, each is done on the disks as it says, and the work goes on until the last one."""
        work, disks = store.work(), store.disks
        for at, step in enumerate(wanted):
            self.assertEqual(store.work(), work)
            before = disks_state(disks)
            self.check_same(step, store.step())
            pending = before[4] + [step[1:]] if step[0] == "write" else [] if step[0] == "sync" else before[4]
            settled = before[3] if step[0] == "sync" else before[2]
            self.assertEqual([disks.settled(), disks.pending()], [settled, pending])
            self.assertEqual(store.work() is None, at == len(wanted) - 1)
        self.check_refused(store, (NoWork,), store.step)
        self.check_refused(store, (NoWork,), store.finish)

    def test_openings(self):
        chance = random.Random(101)
        for numbers in SOME:
            own = OwnBlocks(*numbers)
            for _ in range(8):
                blocks = own.good(own.some_records(chance.randrange(50)), 1)
                heads = list(own.word_of_number(chance.randrange(own.lots)))
                t = chance.randrange(own.H + 1)
                heads[t:] = [chance.randrange(own.q) if chance.random() < 0.5 else 0 for _ in heads[t:]]
                for head, content in enumerate(heads):
                    blocks[head % own.n][own.places[head % own.n][("head", head)]] = content
                for row in blocks:
                    row[-own.k:] = [chance.randrange(own.q) for _ in range(own.k)]
                store = Store(filled(own, blocks, chance.sample(range(own.n), chance.randint(0, own.f))))
                settled = store.disks.settled()
                told = own.read(settled)
                self.check_steps(store, steps_of(own.finish(settled), ("open",)))
                self.assertEqual(store.records(), told)

    def test_an_opening_goes_by_what_is_settled_at_its_first_step(self):
        own = OwnBlocks(3, 2, 2, 1, 5)
        blocks = own.good(own.some_records(1), 2)
        for head, content in enumerate(own.word_of_number(1)):
            blocks[head % 3][own.places[head % 3][("head", head)]] = content
        store = Store(filled(own, blocks))
        store.lose(1)
        store.replace(1)
        store.lose(2)
        self.check_steps(store, steps_of(own.finish([blocks[0], None, None]), ("open",)))

    def test_wishes(self):
        for numbers in SOME:
            own = OwnBlocks(*numbers)
            records = own.some_records(3)
            for lost in [(), tuple(range(own.f)), tuple(range(own.n - own.f, own.n))[:1]]:
                store = opened(own, records, lost)
                for start in sorted({0, own.m - own.k}):
                    wish = changing(own, store.records(), start)
                    for form in (wish, tuple(wish[:1])):
                        told = store.records()
                        groups = own.change(store.disks.settled(), form)
                        self.assertIsNone(store.begin(form))
                        self.check_same(("wish", list(form)), store.work())
                        self.check_steps(store, steps_of(groups, ("done",)))
                        self.assertEqual(store.records(), own.granted(told, form))
                        self.check_same(list(form), store.answered()[-1])

    def test_an_empty_wish(self):
        store = opened(OwnBlocks(3, 1, 2, 2, 5), [(1, 2), (3, 4)])
        for count, wish in enumerate([[], ()]):
            store.begin(wish)
            self.check_same(("wish", []), store.work())
            self.check_steps(store, [("done",)])
            self.assertEqual([store.records(), store.answered()], [[(1, 2), (3, 4)], [[]] * (count + 1)])

    def test_takings_in(self):
        for numbers in SOME:
            own = OwnBlocks(*numbers)
            records = own.some_records(2)
            for lost in subsets(range(own.n), min(own.f, 2)):
                store = opened(own, records, lost)
                for disk in lost:
                    store.replace(disk)
                for disk in lost[::-1]:
                    wanted = steps_of(own.taking(store.disks.settled(), disk), ("in", disk))
                    self.assertEqual(len(wanted), len(own.places[disk]) + 3)
                    store.take_in(disk)
                    self.check_same(("taking", disk), store.work())
                    self.check_steps(store, wanted)
                    self.check_in(store, disk, True)
                    self.assertEqual(store.records(), records)
                self.assertEqual(store.disks.inside(), list(range(own.n)))
                self.assertTrue(own.is_good(store.disks.settled()))

    def test_a_disk_that_is_in_is_taken_in(self):
        store = opened(OwnBlocks(3, 1, 2, 2, 5), [(1, 2), (3, 4)])
        before = disks_state(store.disks)
        for disk in range(3):
            self.assertIsNone(store.take_in(disk))
            self.assertEqual(store.work(), ("taking", disk))
            self.check_steps(store, [("in", disk)])
        self.assertEqual(disks_state(store.disks), before)

    def test_finish(self):
        for numbers in SOME:
            own = OwnBlocks(*numbers)
            records = own.some_records(3)
            for ahead in range(3):
                store = opened(own, records)
                other = copy.deepcopy(store)
                wish = changing(own, records)
                count = len(steps_of(own.change(store.disks.settled(), wish), ("done",)))
                store.begin(wish)
                other.begin(wish)
                for _ in range(ahead):
                    store.step()
                self.check_same(count - ahead, store.finish())
                all_steps(other)
                self.assertEqual(state(store), state(other))
                self.check_refused(store, (NoWork,), store.finish)

    def test_finish_of_a_taking_in(self):
        store = opened(OwnBlocks(3, 1, 2, 2, 5), [(1, 2), (3, 4)], [1])
        store.replace(1)
        store.take_in(1)
        self.assertEqual([store.finish(), store.disks.inside(), store.work()], [8, [0, 1, 2], None])
        store.take_in(1)
        self.assertEqual(store.finish(), 1)


class Told(Base):
    def test_work_in_each_state(self):
        store = Store(Disks(Array(2, 1, 2, 1, 5)))
        self.check_same(("opening",), store.work())
        store.finish()
        self.assertIsNone(store.work())
        store.begin(((1, (2,)),))
        for _ in range(3):
            self.check_same(("wish", [(1, (2,))]), store.work())
            store.step()
        store.cut([])
        self.check_same(("opening",), store.work())
        store.finish()
        store.lose(0)
        store.replace(0)
        store.take_in(0)
        for _ in range(3):
            self.check_same(("taking", 0), store.work())
            store.step()
        store.cut([])
        self.check_same(("opening",), store.work())

    def test_told_lists_are_new(self):
        store = opened(OwnBlocks(3, 1, 2, 2, 5), [(1, 2), (3, 4)])
        wish = [(0, (0, 0)), (1, (1, 1))]
        store.begin(wish)
        store.finish()
        store.begin(wish)
        store.step()
        before = state(store)
        for call in [store.answered, store.records, store.work]:
            found = self.check_new_lists(call)
            for row in [*found, found]:
                if isinstance(row, list):
                    row.append(9)
            self.assertEqual(state(store), before)
        self.assertEqual(wish, [(0, (0, 0)), (1, (1, 1))])
        error = caught(store.begin, [])
        error.work[1].append(9)
        self.assertEqual(state(store), before)

    def test_a_wish_that_is_changed_behind_its_begin(self):
        store = opened(OwnBlocks(3, 1, 2, 2, 5), [(1, 2), (3, 4)])
        wish = [(0, (0, 0))]
        store.begin(wish)
        wish.append((1, (1, 1)))
        self.assertEqual(store.work(), ("wish", [(0, (0, 0))]))
        store.finish()
        self.assertEqual([store.answered(), store.records()], [[[(0, (0, 0))]], [(0, 0), (3, 4)]])
        self.assertEqual(wish, [(0, (0, 0)), (1, (1, 1))])

    def test_records_amid_a_wish(self):
        for numbers in SOME:
            own = OwnBlocks(*numbers)
            store = opened(own, own.some_records(4))
            old = store.records()
            wish = changing(own, old)
            new = own.granted(old, wish)
            store.begin(wish)
            told = [old]
            while store.work() is not None:
                self.check_same(own.read(store.disks.now()), store.records())
                told.append(store.records())
                store.step()
            self.assertEqual([row for row, _ in itertools.groupby(told)], [old, new])
            # The pending head tells ahead of its sync: now() has it.
            at = own.n * own.k + 1 + 2 * own.j + 1
            self.assertEqual(told[at:at + 3], [old, new, new])

    def test_answered_through_cuts(self):
        own = OwnBlocks(2, 1, 2, 1, 5)
        store = opened(own, [(1,), (2,)])
        answered = []
        for number in range(12):
            wish = [(number % 2, (number % 5,))]
            store.begin(wish)
            for _ in range(number):
                store.step()
            store.cut([])
            self.assertEqual(store.answered(), answered)
            store.finish()
            store.begin(wish)
            store.finish()
            answered.append(wish)
            self.assertEqual(store.answered(), answered)
            store.cut([])
            self.assertEqual(store.answered(), answered)
            store.finish()
        self.assertEqual(Store(store.disks).answered(), [])

    def test_a_wish_is_answered_by_its_last_step_alone(self):
        own = OwnBlocks(2, 1, 1, 1, 5)
        for at in range(16):
            store = opened(own, [(1,)])
            store.begin([(0, (4,))])
            steps = [store.step() for _ in range(at)]
            self.assertEqual(store.answered(), [[(0, (4,))]] if ("done",) in steps else [])
            store.cut([])
            store.finish()
            self.assertEqual(store.answered(), [[(0, (4,))]] if ("done",) in steps else [])
        self.assertEqual(steps[-1], ("done",))


class Refused(Base):
    def stores(self, own):
        """Stores in all states: opening, open, amid a wish, amid a taking in."""
        records = own.some_records(1)
        yield Store(Disks(Array(own.n, own.f, own.m, own.k, own.q)))
        blocks = written(own.good(records), [(0, own.m, 1)])
        store = Store(filled(own, blocks))
        store.step()
        yield store
        yield opened(own, records)
        for count in (0, 1, own.n * own.k + 1, own.n * own.k + 3):
            store = opened(own, records)
            store.begin(changing(own, records))
            for _ in range(count):
                store.step()
            yield store
        for count in (0, 1, 2, own.m + 3):
            store = opened(own, records, [0] if own.f else [])
            if own.f:
                store.replace(0)
            store.take_in(0)
            for _ in range(count if own.f else 0):
                store.step()
            yield store

    def test_in_their_order(self):
        for numbers in [(2, 1, 2, 1, 5), (3, 1, 2, 2, 5), (4, 1, 6, 3, 13), (1, 0, 2, 1, 3)]:
            own = OwnBlocks(*numbers)
            for store in self.stores(own):
                wrong_wishes = [*no_lists(), [(own.m, (0,) * own.d)], [(0, [0] * own.d)], [[0, (0,) * own.d]]]
                right_wishes = [[], [(0, (1,) * own.d)]]
                opening, work = store.work() == ("opening",), store.work()
                for wish in wrong_wishes:
                    error = (NotOpen,) if opening else (InvalidWish, wish)
                    found = self.check_refused(store, error, store.begin, wish)
                    if not opening:
                        self.assertIs(found.given, wish)
                for wish in right_wishes:
                    if work is not None:
                        self.check_refused(store, (NotOpen,) if opening else (Busy, work), store.begin, wish)
                for disk in [-1, own.n, own.n + 1, 10 ** 59, *no_integers()]:
                    self.check_wrong_disk(store, opening, disk)
                for disk in range(own.n):
                    if work is not None:
                        self.check_refused(store, (NotOpen,) if opening else (Busy, work), store.take_in, disk)

    def check_wrong_disk(self, store, opening, disk):
        error = (NotOpen,) if opening else (InvalidDisk, disk)
        found = self.check_refused(store, error, store.take_in, disk)
        if not opening:
            self.assertIs(found.given, disk)
        self.assertIs(self.check_refused(store, (InvalidDisk, disk), store.lose, disk).given, disk)
        self.assertIs(self.check_refused(store, (InvalidDisk, disk), store.replace, disk).given, disk)

    def test_busy_with_the_work(self):
        store = opened(OwnBlocks(2, 1, 2, 1, 5), [(1,), (2,)], [1])
        store.begin(((0, (3,)),))
        for call, value in [(store.begin, []), (store.take_in, 0), (store.take_in, 1)]:
            found = self.check_refused(store, (Busy, ("wish", [(0, (3,))])), call, value)
            self.assertIs(type(found.work[1]), list)
        store.finish()
        store.replace(1)
        store.take_in(1)
        store.step()
        for call, value in [(store.begin, []), (store.take_in, 0), (store.take_in, 1)]:
            self.check_refused(store, (Busy, ("taking", 1)), call, value)

    def test_taking_in_a_lost_disk(self):
        store = opened(OwnBlocks(3, 2, 2, 2, 5), [(1,), (2,)], [0, 2])
        self.check_refused(store, (IsLost, 0), store.take_in, 0)
        self.check_refused(store, (IsLost, 2), store.take_in, 2)
        store.begin([])
        self.check_refused(store, (Busy, ("wish", [])), store.take_in, 2)

    def test_losing_and_replacing(self):
        for numbers in [(2, 1, 2, 1, 5), (3, 2, 2, 1, 5), (4, 1, 6, 3, 13)]:
            own = OwnBlocks(*numbers)
            for store in self.stores(own):
                for disk in range(own.n):
                    self.check_refused(store, (NotLost, disk), store.replace, disk)
                for disk in store.disks.inside()[:-own.d]:
                    self.assertIsNone(store.lose(disk))
                    self.check_refused(store, (IsLost, disk), store.lose, disk)
                for disk in store.disks.inside():
                    self.check_refused(store, (TooManyLost, own.f + 1), store.lose, disk)

    def test_cutting(self):
        own = OwnBlocks(3, 1, 2, 2, 5)
        for store in self.stores(own):
            pending = store.disks.pending()
            for left in [*no_lists(), [(0, 0)], [[0, 0, 0]], [(0, 0, True)], [(0, 0, 0), (0, 0, 1)], [(9, 9, 9), (9, 9, None)]]:
                self.assertIs(self.check_refused(store, (InvalidLeft, left), store.cut, left).given, left)
            for item in [(9, 9, 9), (0, -1, 0), (1, 0, None), *[(*write[:2], 5) for write in pending]]:
                found = self.check_refused(store, (NotLeft, item), store.cut, [*pending[:0], item])
                self.assertIs(found.item, item)

    def test_what_may_be_called_at_any_time(self):
        own = OwnBlocks(3, 1, 2, 2, 5)
        for number, store in enumerate(self.stores(own)):
            for act in (lambda: store.cut([]), lambda: store.cut(())):
                self.assertIsNone(act())
                self.assertEqual([store.work(), store.disks.pending()], [("opening",), []])
                self.check_refused(store, (NotOpen,), store.records)
            self.assertGreater(store.finish(), 0)
            self.assertEqual(store.work(), None, number)


class Losses(Base):
    def test_each_disk_lost_at_each_step_of_a_wish(self):
        for numbers in [*TINY, (3, 1, 2, 2, 5), (4, 1, 3, 2, 7), (4, 2, 3, 2, 7), (4, 1, 6, 3, 13), (2, 1, 6, 2, 11)]:
            own = OwnBlocks(*numbers)
            if own.f == 0:
                continue
            records = own.some_records(1)
            wish = changing(own, records)
            steps = steps_of(own.change(own.good(records, 1), wish), ("done",))
            for at, disk, again in itertools.product(range(len(steps)), range(own.n), (False, True)):
                store = opened(own, records)
                store.begin(wish)
                self.assertEqual([store.step() for _ in range(at)], steps[:at])
                self.assertIsNone(store.lose(disk))
                if again:
                    self.assertIsNone(store.replace(disk))
                self.assertEqual(store.work(), ("wish", wish))
                self.assertEqual(all_steps(store), [step for step in steps[at:] if step[:2] != ("write", disk)])
                self.assertEqual([store.records(), store.answered()], [own.granted(records, wish), [wish]])
                self.assertEqual(store.disks.lost(), [] if again else [disk])
                self.check_in(store, disk, False)
                self.assertTrue(own.is_good(store.disks.settled()))
                if again:
                    self.assertEqual(set(store.disks.settled()[disk]), {None})
                    store.take_in(disk)
                    store.finish()
                    self.assertEqual(store.disks.inside(), list(range(own.n)))
                    self.assertEqual(store.records(), own.granted(records, wish))

    def test_each_disk_lost_at_each_step_of_an_opening(self):
        own = OwnBlocks(3, 1, 2, 2, 5)
        records = own.some_records(1)
        blocks = own.good(records, 1)
        wish = changing(own, records)
        for group in own.change(blocks, wish)[:2]:
            blocks = written(blocks, group)
        told, steps = own.read(blocks), steps_of(own.finish(blocks), ("open",))
        self.assertGreater(len(steps), 9)
        for at, disk, again in itertools.product(range(1, len(steps)), range(3), (False, True)):
            store = Store(filled(own, blocks))
            self.assertEqual([store.step() for _ in range(at)], steps[:at])
            store.lose(disk)
            if again:
                store.replace(disk)
            self.assertEqual(all_steps(store), [step for step in steps[at:] if step[:2] != ("write", disk)])
            self.assertEqual([store.records(), store.work(), store.answered()], [told, None, []])
            self.check_in(store, disk, False)

    def test_the_disk_that_is_being_taken_in(self):
        for numbers in [(2, 1, 1, 1, 3), (3, 1, 2, 2, 5), (4, 1, 3, 2, 7), (4, 2, 3, 2, 7)]:
            own = OwnBlocks(*numbers)
            records = own.some_records(1)
            for disk in range(own.n):
                for at in range(len(own.places[disk]) + 3):
                    store = opened(own, records, [disk])
                    store.replace(disk)
                    store.take_in(disk)
                    for _ in range(at):
                        store.step()
                    self.assertIsNone(store.lose(disk))
                    self.assertEqual([store.work(), store.disks.lost(), store.disks.pending()], [None, [disk], []])
                    self.check_refused(store, (NoWork,), store.step)
                    self.assertEqual(store.records(), records)
                    self.check_refused(store, (IsLost, disk), store.take_in, disk)

    def test_a_disk_that_is_in_and_is_being_taken_in(self):
        store = opened(OwnBlocks(3, 1, 2, 2, 5), [(1, 2), (3, 4)])
        store.take_in(1)
        store.lose(1)
        self.assertEqual([store.work(), store.records()], [None, [(1, 2), (3, 4)]])

    def test_another_disk_is_lost_amid_a_taking_in(self):
        own = OwnBlocks(4, 2, 3, 2, 7)
        records = own.some_records(5)
        for disk, other in itertools.permutations(range(4), 2):
            for at in range(len(own.places[disk]) + 3):
                store = opened(own, records, [disk])
                store.replace(disk)
                wanted = steps_of(own.taking(store.disks.settled(), disk), ("in", disk))
                store.take_in(disk)
                found = [store.step() for _ in range(at)]
                store.lose(other)
                if at % 2:
                    store.replace(other)
                self.assertEqual(store.work(), ("taking", disk))
                self.assertEqual(found + all_steps(store), wanted)
                self.assertEqual([store.records(), disk in store.disks.inside()], [records, True])

    def test_all_disks_that_may_be_lost_amid_a_wish(self):
        for numbers in [(3, 2, 2, 1, 5), (4, 2, 3, 2, 7), (5, 3, 2, 2, 5)]:
            own = OwnBlocks(*numbers)
            records = own.some_records(3)
            wish = changing(own, records)
            steps = steps_of(own.change(own.good(records, 1), wish), ("done",))
            for lost in itertools.combinations(range(own.n), own.f):
                for at in range(0, len(steps), 3):
                    store = opened(own, records)
                    store.begin(wish)
                    for _ in range(at):
                        store.step()
                    for disk in lost:
                        store.lose(disk)
                    left = [step for step in steps[at:] if step[0] != "write" or step[1] not in lost]
                    self.assertEqual(all_steps(store), left)
                    self.assertEqual(store.records(), own.granted(records, wish))


class Cuts(Base):
    """Cuts at each step, with each way to leave what is pending."""

    def check_settled(self, own, store, right):
        """The records that an open store tells stay, through a cut, another store, losses, new disks and takings in."""
        told = store.records()
        self.assertIn(told, right)
        other = copy.deepcopy(store)
        other.cut([])
        other.finish()
        self.assertEqual(other.records(), told)
        second = Store(copy.deepcopy(store.disks))
        second.finish()
        self.assertEqual([second.records(), second.answered()], [told, []])
        for lost in subsets(store.disks.inside(), len(store.disks.inside()) - own.d):
            other = copy.deepcopy(store)
            for disk in lost:
                other.lose(disk)
                self.assertEqual(other.records(), told)
            for disk in range(own.n):
                if disk in other.disks.lost():
                    other.replace(disk)
                other.take_in(disk)
                other.finish()
            self.assertEqual([other.records(), other.disks.inside()], [told, list(range(own.n))])
            self.assertTrue(own.is_good(other.disks.settled()))

    def check_cut(self, own, store, left, right, deeper):
        """A cut that leaves this, then an opening, which may be cut again at each of its steps."""
        answered = store.answered()
        store.cut(left)
        self.assertEqual([store.work(), store.disks.pending(), store.answered()], [("opening",), [], answered])
        if deeper:
            self.check_cut_openings(own, store, right)
        store.finish()
        self.assertEqual(store.answered(), answered)
        self.check_settled(own, store, right)

    def check_cut_openings(self, own, store, right):
        opening = copy.deepcopy(store)
        while True:
            for left in ways_to_cut(own, opening.disks):
                self.check_cut(own, copy.deepcopy(opening), left, right, False)
            if opening.step() == ("open",):
                return

    def test_each_step_of_a_wish(self):
        for numbers in TINY[:4]:
            own = OwnBlocks(*numbers)
            store = opened(own, own.some_records(1))
            self.check_each_cut(own, store, True)

    def check_each_cut(self, own, store, deeper):
        old = store.records()
        wish = changing(own, old)
        new = own.granted(old, wish)
        store.begin(wish)
        found = {}
        while store.work() is not None:
            for left in ways_to_cut(own, store.disks):
                other = copy.deepcopy(store)
                self.check_cut(own, other, left, [old, new], deeper)
                found[other.records() == new] = True
            store.step()
        self.assertEqual(sorted(found), [False, True])
        # The wish is answered: a cut behind it takes nothing back.
        other = copy.deepcopy(store)
        other.cut([])
        other.finish()
        self.assertEqual([other.records(), other.answered()], [new, [wish]])

    def test_each_step_of_a_wish_on_greater_arrays(self):
        for numbers in [(2, 1, 2, 1, 3), (3, 2, 1, 1, 3)]:
            own = OwnBlocks(*numbers)
            self.check_each_cut(own, opened(own, own.some_records(1)), False)

    def test_each_step_of_a_wish_with_a_disk_lost(self):
        for numbers, lost in [((2, 1, 1, 1, 3), [0]), ((2, 1, 1, 1, 3), [1]), ((3, 2, 1, 1, 3), [1])]:
            own = OwnBlocks(*numbers)
            self.check_each_cut(own, opened(own, own.some_records(1), lost), False)

    def test_a_loss_ahead_of_each_cut(self):
        for numbers in [(2, 1, 1, 1, 2), (2, 1, 1, 1, 3)]:
            own = OwnBlocks(*numbers)
            old = own.some_records(1)
            wish = changing(own, old)
            count = len(steps_of(own.change(own.good(old, 1), wish), ("done",)))
            for at, disk, more in itertools.product(range(count), range(own.n), range(4)):
                store = opened(own, old)
                store.begin(wish)
                for _ in range(at):
                    store.step()
                store.lose(disk)
                if more % 2:
                    store.replace(disk)
                while more and store.work() is not None:
                    store.step()
                    more -= 1
                right = [old, own.granted(old, wish)] if store.work() is not None else [own.granted(old, wish)]
                for left in ways_to_cut(own, store.disks):
                    self.check_cut(own, copy.deepcopy(store), left, right, False)

    def test_each_step_of_a_taking_in(self):
        for numbers in [(2, 1, 1, 1, 2), (2, 1, 1, 1, 3), (3, 1, 2, 2, 3), (2, 1, 2, 1, 3)]:
            own = OwnBlocks(*numbers)
            records = own.some_records(1)
            for disk in range(own.n):
                store = opened(own, records, [disk])
                store.replace(disk)
                store.take_in(disk)
                self.check_taking(own, store, disk, records)

    def check_taking(self, own, store, disk, records):
        whole = len(own.places[disk])
        while store.work() is not None:
            self.assertEqual(store.records(), records)
            for left in itertools.islice(self.ways_to_leave(own, store.disks), 300):
                other = copy.deepcopy(store)
                other.cut(left)
                settled = other.disks.settled()[disk]
                if disk in other.disks.inside():
                    self.assertEqual(settled[:whole - own.k], own.good(records)[disk][:whole - own.k])
                self.assertEqual(other.finish(), 1)
                self.assertEqual(other.records(), records)
                self.check_taken_anew(own, other, disk, records)
            store.step()
        self.check_in(store, disk, True)

    def ways_to_leave(self, own, disks):
        """Ways to leave a disk that is being taken in: its pending blocks not there, torn, or as they are written."""
        pending = disks.pending()
        for some in itertools.product(["undone", "torn", "done"], repeat=len(pending)):
            yield [(disk, block, content if way == "done" else (content + 1) % own.q)
                   for way, (disk, block, content) in zip(some, pending) if way != "undone"]

    def check_taken_anew(self, own, store, disk, records):
        was_in = disk in store.disks.inside()
        wanted = steps_of(own.taking(store.disks.settled(), disk), ("in", disk))
        self.assertEqual(len(wanted), 1 if was_in else len(own.places[disk]) + 3)
        store.take_in(disk)
        self.assertEqual(all_steps(store), wanted)
        self.check_in(store, disk, True)
        self.assertTrue(own.is_good(store.disks.settled()))
        for lost in range(own.n):
            other = copy.deepcopy(store)
            other.lose(lost)
            self.assertEqual(other.records(), records)

    def test_a_wish_between_two_takings_in(self):
        # Blocks of a first taking in that was cut are there, and old: the second one writes them, too.
        own = OwnBlocks(2, 1, 2, 2, 5)
        for at in range(len(own.places[0]) + 2):
            store = opened(own, [(1,), (2,)], [0])
            store.replace(0)
            store.take_in(0)
            for _ in range(at):
                store.step()
            store.cut([write for write in store.disks.pending() if write[1] % 2 == 0])
            store.finish()
            store.begin([(0, (3,)), (1, (4,))])
            store.finish()
            self.check_taken_anew(own, store, 0, [(3,), (4,)])

    def test_a_second_store_on_the_disks_of_the_first(self):
        own = OwnBlocks(3, 1, 2, 2, 5)
        old = own.some_records(1)
        wish = changing(own, old)
        first = opened(own, old)
        first.begin(wish)
        while first.work() is not None:
            if first.step() == ("sync",):
                disks = copy.deepcopy(first.disks)
                told, settled = own.read(disks.settled()), disks.settled()
                second = Store(disks)
                self.assertEqual([second.work(), second.answered()], [("opening",), []])
                self.assertEqual(all_steps(second), steps_of(own.finish(settled), ("open",)))
                self.assertEqual(second.records(), told)
                self.assertIn(told, [old, own.granted(old, wish)])
                second.begin(changing(own, told))
                second.finish()
                self.assertEqual(second.records(), own.granted(told, changing(own, told)))


class Runs(Base):
    ACTS = ["step"] * 40 + ["finish"] * 3 + ["begin"] * 8 + ["cut"] * 2 + ["lose"] * 2 + ["replace"] * 3 + ["take_in"] * 4

    def test_long_runs_against_the_model(self):
        for numbers in SOME:
            own = OwnBlocks(*numbers)
            for seed in range(2 if own.n > 4 else 5):
                self.check_run(own, random.Random(seed))

    def check_run(self, own, chance):
        blocks = own.good(own.some_records(chance.randrange(99)), 2)
        for row in blocks:
            row[own.m:] = [chance.randrange(own.q) for _ in row[own.m:]]
        store, model = Store(filled(own, blocks)), Model(own, OwnDisks(own))
        model.disks.settle([(disk, block, content) for disk, row in enumerate(blocks) for block, content in enumerate(row)])
        # What any contents of heads tell may go by the disks that are left, until the store is first open.
        possible, begun = None, None
        for _ in range(150):
            act = chance.choice(self.ACTS)
            was, count = model.work, len(model.answered)
            self.do(store, model, chance, act)
            self.assertEqual(state(store), model.told())
            if was is None and model.work is not None and model.work[0] == "wish":
                begun = model.work[1]
            if len(model.answered) > count:
                possible, begun = [own.granted(records, model.answered[-1]) for records in possible], None
            if act == "cut" and begun is not None:
                possible, begun = possible + [own.granted(records, begun) for records in possible], None
            if model.work is None or model.work[0] == "taking":
                self.assertIn(store.records(), possible or [store.records()])
                possible = [store.records()]

    def do(self, store, model, chance, act):
        if act == "step":
            self.check_alike(store.step, model.step)
        elif act == "finish":
            while model.work is not None and chance.random() < 0.95:
                self.check_alike(store.step, model.step)
        elif act == "cut":
            self.check_alike(store.cut, model.cut, model.disks.some_left(chance))
        elif act == "begin":
            records = sorted(chance.sample(range(model.own.m), chance.randint(0, model.own.k)))
            wish = [(record, tuple(chance.randrange(model.own.q) for _ in range(model.own.d))) for record in records]
            self.check_alike(store.begin, model.begin, chance.choice([wish, tuple(wish)]))
        else:
            disk = chance.randrange(model.own.n)
            self.check_alike(getattr(store, act), getattr(model, act), disk)

    def check_alike(self, call, same, *values):
        wanted = same(*values)
        if wanted is not None and isinstance(wanted[0], type):
            error = caught(call, *values)
            self.assertEqual((type(error), *vars(error).values()), wanted)
        else:
            self.check_same(wanted, call(*values))


if __name__ == "__main__":
    unittest.main()
