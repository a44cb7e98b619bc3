"""[113]: take_all, of stores in each state of their work, with disks that are lost, there and not in, or in."""

import copy
import random
import unittest

from checks import Checks
from reckoning import OwnBlocks, OwnDisks, subsets, written
from storing import SOME, Model, changing, disks_state, filled, opened
from sparesum.arrays import Array
from sparesum.disks import Disks
from sparesum.stores import Store
from sparesum.taking import take_all

ARRAYS = [(1, 0, 2, 1, 3), (2, 1, 1, 1, 3), (2, 1, 2, 1, 5), (3, 1, 2, 2, 5), (3, 2, 2, 1, 5), (4, 2, 3, 2, 7)]


def lacking_stores(own, records):
    """Open stores with these records, with none to as many disks lost as may be, and with some of these replaced."""
    for lost in subsets(range(own.n), own.f):
        for again in subsets(lost):
            store = opened(own, records, lost)
            for disk in again:
                store.replace(disk)
            yield store


class TakeAll(Checks, unittest.TestCase):
    def check_taken(self, own, store, records, taken):
        """take_all takes just these disks in; the disks and the store are then as they have to be."""
        answered = store.answered()
        if store.work() is not None and store.work()[0] == "wish":
            answered.append(store.work()[1])
        self.check_same(taken, take_all(store))
        self.assertEqual([store.disks.inside(), store.disks.lost()], [list(range(own.n)), []])
        self.assertEqual([store.disks.pending(), store.work(), store.answered()], [[], None, answered])
        self.assertEqual(store.records(), records)
        self.assertTrue(own.is_good(store.disks.settled()))
        for lost in subsets(range(own.n), own.f):
            other = copy.deepcopy(store)
            for disk in lost:
                other.lose(disk)
            self.assertEqual(other.records(), records)
        before = disks_state(store.disks)
        self.check_same([], take_all(store))
        self.assertEqual(disks_state(store.disks), before)

    def missing(self, own, store):
        return [disk for disk in range(own.n) if disk not in store.disks.inside()]

    def test_example(self):
        disks = Disks(Array(2, 1, 1, 1, 5))
        store = Store(disks)
        store.finish()
        store.begin([(0, (3,))])
        store.finish()
        store.lose(0)
        store.replace(0)
        store.take_in(0)
        store.finish()
        self.assertIsNone(store.lose(1))
        self.check_same([1], take_all(store))
        self.assertEqual([disks.inside(), store.records()], [[0, 1], [(3,)]])

    def test_no_work(self):
        for numbers in ARRAYS:
            own = OwnBlocks(*numbers)
            records = own.some_records(1)
            for store in lacking_stores(own, records):
                self.check_taken(own, store, records, self.missing(own, store))

    def test_a_new_store(self):
        for numbers in SOME:
            own = OwnBlocks(*numbers)
            self.check_taken(own, Store(Disks(Array(*numbers))), [(0,) * own.d] * own.m, [])

    def test_each_step_of_an_opening(self):
        for numbers in ARRAYS:
            own = OwnBlocks(*numbers)
            old = own.some_records(1)
            for number, store in enumerate(lacking_stores(own, old)):
                wish = changing(own, old)
                store.begin(wish)
                steps = (own.k + 2) * len(store.disks.inside()) + number
                while store.work() is not None and steps:
                    store.step()
                    steps -= 1
                store.cut([])
                records = own.read(store.disks.settled())
                self.assertIn(records, [old, own.granted(old, wish)])
                while store.work() is not None:
                    self.check_taken(own, copy.deepcopy(store), records, self.missing(own, store))
                    store.step()

    def test_an_opening_with_all_heads_set(self):
        for numbers in ARRAYS:
            own = OwnBlocks(*numbers)
            blocks, wish = own.good(own.some_records(1), 2), changing(own, own.some_records(1))
            for group in own.change(blocks, wish)[:own.H + 1]:
                blocks = written(blocks, group)
            records = own.read(blocks)
            self.assertEqual(records, own.granted(own.some_records(1), wish))
            for lost in subsets(range(own.n), own.f):
                store = Store(filled(own, blocks, lost))
                self.check_taken(own, store, records, lost)

    def test_each_step_of_a_wish(self):
        for numbers in ARRAYS:
            own = OwnBlocks(*numbers)
            old = own.some_records(2)
            wish = changing(own, old)
            for store in lacking_stores(own, old):
                store.begin(wish)
                while store.work() is not None:
                    self.check_taken(own, copy.deepcopy(store), own.granted(old, wish), self.missing(own, store))
                    store.step()

    def test_a_loss_amid_a_wish(self):
        for numbers in ARRAYS[1:]:
            own = OwnBlocks(*numbers)
            old = own.some_records(2)
            wish = changing(own, old)
            store = opened(own, old)
            store.begin(wish)
            while store.work() is not None:
                for disk in range(own.n):
                    for again in (False, True):
                        other = copy.deepcopy(store)
                        other.lose(disk)
                        if again:
                            other.replace(disk)
                        self.check_taken(own, other, own.granted(old, wish), [disk])
                store.step()

    def test_each_step_of_a_taking_in(self):
        for numbers in ARRAYS:
            own = OwnBlocks(*numbers)
            records = own.some_records(3)
            for store in lacking_stores(own, records):
                for disk in range(own.n):
                    if disk not in store.disks.lost():
                        self.check_each_step_of_taking(own, copy.deepcopy(store), disk, records)

    def check_each_step_of_taking(self, own, store, disk, records):
        store.take_in(disk)
        others = [other for other in self.missing(own, store) if other != disk]
        while store.work() is not None:
            self.check_taken(own, copy.deepcopy(store), records, others)
            store.step()
        self.check_taken(own, store, records, others)

    def test_the_disk_that_was_being_taken_in_is_lost(self):
        for numbers in ARRAYS[1:]:
            own = OwnBlocks(*numbers)
            for at in range(5):
                store = opened(own, own.some_records(1), [0])
                store.replace(0)
                store.take_in(0)
                for _ in range(at):
                    store.step()
                store.lose(0)
                self.check_taken(own, store, own.some_records(1), [0])

    def test_step_by_step_against_the_model(self):
        chance = random.Random(113)
        for numbers in SOME:
            own = OwnBlocks(*numbers)
            for _ in range(6):
                store, model = self.drawn_store(own, chance)
                taken = self.taken_by_model(model)
                self.check_same(taken, take_all(store))
                self.assertEqual([store.work(), store.answered(), store.records(), disks_state(store.disks)], model.told())

    def drawn_store(self, own, chance):
        store, model = Store(Disks(Array(own.n, own.f, own.m, own.k, own.q))), Model(own, OwnDisks(own))
        store.step()
        model.step()
        for _ in range(chance.randrange(120)):
            act = chance.choice(["step"] * 20 + ["begin"] * 5 + ["lose", "replace", "take_in", "cut"])
            disk = chance.randrange(own.n)
            if act == "step" and model.work is not None:
                store.step()
                model.step()
            elif act == "begin" and model.work is None:
                wish = changing(own, own.some_records(chance.randrange(50)))
                store.begin(wish)
                model.begin(wish)
            elif act == "cut":
                left = model.disks.some_left(chance)
                store.cut(left)
                model.cut(left)
            elif act == "lose" and model.disks.may_lose(disk) or act == "replace" and disk not in model.disks.there:
                getattr(store, act)(disk)
                getattr(model, act)(disk)
            elif act == "take_in" and model.work is None and disk in model.disks.there:
                store.take_in(disk)
                model.take_in(disk)
        return store, model

    def taken_by_model(self, model):
        while model.work is not None:
            model.step()
        for disk in range(model.own.n):
            if disk not in model.disks.there:
                model.replace(disk)
        taken = []
        for disk in range(model.own.n):
            if disk not in model.disks.inside():
                taken.append(disk)
                model.take_in(disk)
                while model.work is not None:
                    model.step()
        return taken

    def test_by_name(self):
        store = opened(OwnBlocks(3, 1, 2, 2, 5), [(1, 2), (3, 4)], [2])
        self.check_same([2], take_all(store=store))


if __name__ == "__main__":
    unittest.main()
