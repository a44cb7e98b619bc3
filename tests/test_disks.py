"""[71], [72], [73], [74]: disks, held against a model of the tests' own."""

import itertools
import random
import unittest

from checks import Checks, Plain, Touchy, caught, no_integers, no_lists
from reckoning import Own, OwnDisks, subsets
from sparesum.arrays import Array
from sparesum.disks import Disks
from sparesum.errors import (InvalidBlock, InvalidContent, InvalidDisk, InvalidLeft, IsLost, NotLeft, NotLost,
                             TooManyLost)

SOME = [(1, 0, 1, 1, 2), (2, 1, 1, 1, 5), (3, 1, 2, 2, 5), (3, 2, 2, 1, 3), (4, 1, 3, 2, 7), (4, 2, 6, 3, 13), (5, 4, 2, 1, 5),
        (12, 6, 5, 1, 13), (12, 11, 24, 12, 997)]


def state(disks):
    return [disks.lost(), disks.inside(), disks.settled(), disks.now(), disks.pending()]


def made(*numbers, lost=(), replaced=(), writes=()):
    """Disks of an array with these disks lost, these of them replaced, and these writes pending."""
    disks = Disks(Array(*numbers))
    for disk in lost:
        disks.lose(disk)
    for disk in replaced:
        disks.replace(disk)
    for write in writes:
        disks.write(*write)
    return disks


class Base(Checks, unittest.TestCase):
    def check_refused(self, disks, error_class, attribute, given, call, *values):
        """The call raises this error with this very object, or this count, and changes nothing."""
        before = state(disks)
        error = caught(call, *values)
        self.assertIs(type(error), error_class, values)
        if attribute == "count":
            self.check_same(given, error.count)
        else:
            self.assertIs(getattr(error, attribute), given)
        self.assertEqual(state(disks), before)


class AtFirst(Base):
    def test_example(self):
        disks = Disks(Array(2, 1, 1, 1, 5))
        self.assertEqual([disks.settled(), disks.inside(), disks.lost()], [[[0, 0, 0], [0, 0, 0]], [0, 1], []])
        self.assertIsNone(disks.write(0, 2, 4))
        self.assertIsNone(disks.write(1, 2, 4))
        self.assertEqual([disks.now(), disks.pending()], [[[0, 0, 4], [0, 0, 4]], [(0, 2, 4), (1, 2, 4)]])
        self.assertIsNone(disks.cut([(1, 2, 3)]))
        self.assertIsNone(disks.lose(0))
        self.assertIsNone(disks.replace(0))
        self.assertEqual([disks.settled(), disks.inside(), disks.lost(), disks.sync()],
                         [[[None, None, None], [0, 0, 3]], [1], [], 0])
        self.check_refused(disks, TooManyLost, "count", 2, disks.lose, 1)

    def test_all_are_in_with_0(self):
        for numbers in SOME:
            array, own = Array(*numbers), Own(*numbers)
            disks = Disks(array)
            self.assertIs(disks.array, array)
            rows = [[0] * len(own.layout(disk)) for disk in range(own.n)]
            self.check_same([[], list(range(own.n)), rows, rows, []], state(disks))

    def test_told_lists_are_new_and_may_be_changed(self):
        disks = made(4, 2, 6, 3, 13, lost=[0, 3], replaced=[3], writes=[(1, 2, 3), (3, 0, 1), (2, 1, 4)])
        before = state(disks)
        for call in [disks.lost, disks.inside, disks.settled, disks.now, disks.pending]:
            found = self.check_new_lists(call)
            for row in found:
                if isinstance(row, list):
                    row[0] = 7
                    row.append(8)
            found.append(9)
            self.assertEqual(state(disks), before)
        disks.sync()
        before = state(disks)
        for row in disks.settled() + disks.now():
            if row is not None:
                row.clear()
        self.assertEqual(state(disks), before)

    def test_settled_without_pending_writes_is_not_now(self):
        disks = made(3, 1, 2, 2, 5)
        settled, now = disks.settled(), disks.now()
        self.assertEqual(settled, now)
        self.assertFalse({id(row) for row in settled} & {id(row) for row in now})


class Writing(Base):
    def test_a_write_is_pending_until_the_sync(self):
        disks = made(3, 1, 2, 2, 5)
        before = disks.settled()
        self.assertIsNone(disks.write(1, 0, 4))
        self.assertEqual([disks.settled(), disks.pending()], [before, [(1, 0, 4)]])
        self.assertEqual(disks.now()[1][0], 4)
        self.assertEqual(disks.sync(), 1)
        self.assertEqual([disks.settled(), disks.now(), disks.pending()], [disks.now(), disks.settled(), []])
        self.assertEqual(disks.settled()[1], [4] + before[1][1:])
        self.assertEqual(disks.sync(), 0)

    def test_several_writes_to_one_block(self):
        disks = made(3, 1, 2, 2, 5, writes=[(1, 0, 4), (1, 1, 2), (1, 0, 3), (0, 0, 1), (1, 0, 2)])
        self.assertEqual(disks.pending(), [(1, 0, 4), (1, 1, 2), (1, 0, 3), (0, 0, 1), (1, 0, 2)])
        self.assertEqual([disks.now()[1][:2], disks.settled()[1][:2]], [[2, 2], [0, 0]])
        self.assertEqual(disks.sync(), 5)
        self.assertEqual([disks.settled()[1][:2], disks.settled()[0][0]], [[2, 2], 1])

    def test_writes_that_change_nothing(self):
        disks = made(3, 1, 2, 2, 5, writes=[(1, 0, 0), (1, 0, 0)])
        self.assertEqual(disks.pending(), [(1, 0, 0), (1, 0, 0)])
        self.assertEqual(disks.now(), disks.settled())
        self.assertEqual(disks.sync(), 2)

    def test_a_block_that_is_not_there(self):
        disks = made(3, 1, 2, 2, 5, lost=[1], replaced=[1], writes=[(1, 1, 0), (1, 3, 4)])
        self.assertEqual(disks.settled()[1], [None] * 5)
        self.assertEqual(disks.now()[1], [None, 0, None, 4, None])
        self.assertEqual(disks.sync(), 2)
        self.assertEqual(disks.settled()[1], [None, 0, None, 4, None])
        self.assertEqual(disks.inside(), [0, 2])
        for block in [0, 2, 4]:
            disks.write(1, block, 0)
        self.assertEqual([disks.inside(), disks.now()[1]], [[0, 2], [0, 0, 0, 4, 0]])
        disks.sync()
        self.assertEqual(disks.inside(), [0, 1, 2])

    def test_each_block_and_each_content(self):
        for numbers in SOME[:5]:
            own = Own(*numbers)
            for disk in range(own.n):
                for block in range(len(own.layout(disk))):
                    for content in range(own.q):
                        disks = made(*numbers, writes=[(disk, block, content)])
                        wanted = disks.settled()
                        wanted[disk][block] = content
                        self.assertEqual([disks.now(), disks.sync(), disks.settled()], [wanted, 1, wanted])

    def test_wrong_disks(self):
        for numbers in SOME:
            disks = made(*numbers)
            for disk in [-1, numbers[0], numbers[0] + 1, 10 ** 59, -10 ** 59, *no_integers()]:
                self.check_refused(disks, InvalidDisk, "given", disk, disks.write, disk, 0, 0)
                self.check_refused(disks, InvalidDisk, "given", disk, disks.write, disk, -1, None)

    def test_a_lost_disk(self):
        disks = made(4, 2, 6, 3, 13, lost=[0, 3], replaced=[0], writes=[(1, 2, 3), (0, 2, 3)])
        for block, content in [(0, 0), (-1, 0), (0, 13), (None, None)]:
            self.check_refused(disks, IsLost, "disk", 3, disks.write, 3, block, content)
        self.assertIsNone(disks.write(0, 0, 0))

    def test_wrong_blocks(self):
        for numbers in SOME:
            own = Own(*numbers)
            disks = made(*numbers, writes=[(0, 0, 1)])
            for disk in sorted({0, own.n - 1}):
                size = len(own.layout(disk))
                for block in [-1, -size, size, size + 1, 10 ** 59, *no_integers()]:
                    self.check_refused(disks, InvalidBlock, "given", block, disks.write, disk, block, 0)
                    self.check_refused(disks, InvalidBlock, "given", block, disks.write, disk, block, own.q)

    def test_disks_have_unlike_numbers_of_blocks(self):
        disks = made(4, 1, 3, 2, 7)
        for disk, size in enumerate([6, 6, 6, 5]):
            self.assertIsNone(disks.write(disk, size - 1, 1))
            self.check_refused(disks, InvalidBlock, "given", size, disks.write, disk, size, 1)

    def test_wrong_contents(self):
        for numbers in SOME:
            own = Own(*numbers)
            disks = made(*numbers, writes=[(0, 0, 1)])
            for content in [-1, own.q, own.q + 1, 10 ** 59, *no_integers()]:
                self.check_refused(disks, InvalidContent, "given", content, disks.write, own.n - 1, 0, content)


class Losing(Base):
    def test_all_disks_that_may_be_lost_and_one_more(self):
        for numbers in SOME[:7]:
            own = Own(*numbers)
            for some in itertools.permutations(range(own.n), own.f):
                disks = made(*numbers, lost=some)
                self.assertEqual(disks.lost(), sorted(some))
                self.assertEqual(disks.inside(), [disk for disk in range(own.n) if disk not in some])
                self.assertEqual([disk for disk, row in enumerate(disks.settled()) if row is None], sorted(some))
                for disk in range(own.n):
                    if disk in some:
                        self.check_refused(disks, IsLost, "disk", disk, disks.lose, disk)
                    else:
                        self.check_refused(disks, TooManyLost, "count", own.f + 1, disks.lose, disk)

    def test_replaced_disks_count_until_they_are_in(self):
        disks = made(4, 2, 6, 3, 13, lost=[1, 2], replaced=[1, 2])
        self.assertEqual([disks.lost(), disks.inside()], [[], [0, 3]])
        self.check_refused(disks, TooManyLost, "count", 3, disks.lose, 0)
        for block in range(len(Own(4, 2, 6, 3, 13).layout(1))):
            disks.write(1, block, 0)
        # What is pending does not count.
        self.assertEqual(disks.inside(), [0, 3])
        self.check_refused(disks, TooManyLost, "count", 3, disks.lose, 3)
        disks.sync()
        self.assertEqual(disks.inside(), [0, 1, 3])
        self.assertIsNone(disks.lose(3))
        self.assertEqual([disks.lost(), disks.inside()], [[3], [0, 1]])

    def test_a_disk_that_is_there_and_not_in_may_always_be_lost(self):
        for numbers in SOME[1:7]:
            own = Own(*numbers)
            if own.f == 0:
                continue
            some = list(range(own.n - own.f, own.n))
            disks = made(*numbers, lost=some, replaced=some)
            disks.write(some[0], 0, 1)
            disks.sync()
            for disk in some:
                self.assertIsNone(disks.lose(disk))
                self.assertIn(disk, disks.lost())
            self.assertEqual(disks.inside(), list(range(own.n - own.f)))

    def test_pending_writes_of_a_lost_disk_are_gone(self):
        disks = made(4, 2, 6, 3, 13, writes=[(0, 0, 1), (1, 0, 2), (0, 1, 3), (2, 0, 4), (1, 1, 5)])
        disks.lose(1)
        self.assertEqual(disks.pending(), [(0, 0, 1), (0, 1, 3), (2, 0, 4)])
        self.assertIsNone(disks.now()[1])
        disks.replace(1)
        self.assertEqual(disks.pending(), [(0, 0, 1), (0, 1, 3), (2, 0, 4)])
        self.assertEqual(set(disks.now()[1]), {None})
        self.assertEqual(disks.sync(), 3)
        self.assertEqual(set(disks.settled()[1]), {None})
        self.assertEqual([disks.settled()[0][:2], disks.settled()[2][0]], [[1, 3], 4])

    def test_a_disk_is_lost_twice(self):
        disks = made(2, 1, 1, 1, 5)
        disks.write(0, 0, 3)
        disks.sync()
        for _ in range(3):
            disks.lose(0)
            self.assertEqual([disks.lost(), disks.settled()[0]], [[0], None])
            disks.replace(0)
            self.assertEqual([disks.lost(), disks.settled()[0]], [[], [None] * 3])
            disks.write(0, 0, 3)
            disks.sync()
        self.check_refused(disks, TooManyLost, "count", 2, disks.lose, 1)

    def test_replacing(self):
        disks = made(4, 2, 6, 3, 13, lost=[1, 2])
        for disk in [0, 3]:
            self.check_refused(disks, NotLost, "disk", disk, disks.replace, disk)
        self.assertIsNone(disks.replace(2))
        self.check_refused(disks, NotLost, "disk", 2, disks.replace, 2)
        self.assertEqual(disks.lost(), [1])
        self.assertEqual(disks.settled()[2], [None] * len(Own(4, 2, 6, 3, 13).layout(2)))

    def test_wrong_disks(self):
        for numbers in SOME:
            disks = made(*numbers, lost=[0] if numbers[1] else [])
            for disk in [-1, numbers[0], numbers[0] + 1, 10 ** 59, -10 ** 59, *no_integers()]:
                self.check_refused(disks, InvalidDisk, "given", disk, disks.lose, disk)
                self.check_refused(disks, InvalidDisk, "given", disk, disks.replace, disk)

    def test_lost_ahead_of_too_many(self):
        disks = made(2, 1, 1, 1, 5, lost=[0])
        self.check_refused(disks, IsLost, "disk", 0, disks.lose, 0)
        self.check_refused(disks, TooManyLost, "count", 2, disks.lose, 1)
        disks = made(1, 0, 1, 1, 2)
        self.check_refused(disks, TooManyLost, "count", 1, disks.lose, 0)


class Cuts(Base):
    WRITES = [(0, 0, 1), (1, 2, 4), (2, 3, 2), (0, 0, 3), (1, 0, 0)]

    def start(self):
        """Disks with a block settled at 2, a new disk 1, and writes to four blocks pending."""
        disks = made(3, 1, 2, 2, 5, lost=[1], replaced=[1])
        disks.write(0, 0, 2)
        disks.sync()
        for write in self.WRITES:
            disks.write(*write)
        return disks

    def test_each_way_to_leave_each_block(self):
        ways = {(0, 0): [0, 1, 2, 3, 4], (1, 2): [None, 0, 1, 2, 3, 4], (2, 3): [0, 1, 2, 3, 4], (1, 0): [None, 0, 1, 2, 3, 4]}
        before = self.start().settled()
        for places in subsets(ways):
            for contents in itertools.product(*[ways[place] for place in places]):
                left = [(*place, content) for place, content in zip(places, contents)]
                for items in (left, tuple(left[::-1])):
                    disks = self.start()
                    self.assertIsNone(disks.cut(items))
                    wanted = [list(row) for row in before]
                    for disk, block, content in left:
                        wanted[disk][block] = content
                    self.assertEqual([disks.settled(), disks.now(), disks.pending()], [wanted, wanted, []])
                    self.assertEqual([disks.lost(), disks.inside()], [[], [0, 2]])

    def test_a_block_that_is_there_cannot_be_left_as_not_there(self):
        disks = self.start()
        for item in [(0, 0, None), (2, 3, None)]:
            self.check_refused(disks, NotLeft, "item", item, disks.cut, [item])
            self.check_refused(disks, NotLeft, "item", item, disks.cut, [(1, 2, None), item, (9, 9, 9)])

    def test_blocks_without_pending_writes(self):
        disks = self.start()
        for item in [(0, 1, 0), (0, 1, 3), (1, 1, None), (1, 1, 0), (2, 0, 0), (2, 3 + 1, 1), (0, -1, 0), (-1, 0, 0), (3, 0, 0),
                     (1, 5, None), (0, 10 ** 59, 0), (-10 ** 59, 0, 1), (2, -2, 2)]:
            self.check_refused(disks, NotLeft, "item", item, disks.cut, [item])
            self.check_refused(disks, NotLeft, "item", item, disks.cut, (item,))

    def test_contents_out_of_their_range(self):
        disks = self.start()
        for place in [(0, 0), (1, 2), (2, 3), (1, 0)]:
            for content in [-1, 5, 6, 10 ** 59, -10 ** 59]:
                item = (*place, content)
                self.check_refused(disks, NotLeft, "item", item, disks.cut, [item])

    def test_the_first_item_that_is_wrong(self):
        right, wrong = [(0, 0, 4), (1, 2, None)], [(2, 3, 5), (2, 2, 0), (0, 1, None), (7, 7, 7), (1, 0, -1)]
        for order in itertools.permutations(right + wrong, 4):
            disks = self.start()
            first = [item for item in order if item in wrong]
            self.check_refused(disks, NotLeft, "item", first[0], disks.cut, list(order))

    def test_shapes(self):
        wrong = [None, True, 3, "", "abc", [0, 0, 1], [], (), (0,), (0, 0), (0, 0, 1, 1), (True, 0, 1), (0, False, 1), (0, 0, True),
                 (None, 0, 1), (0, None, 1), ("0", 0, 1), (0, "0", 1), (0, 0, "1"), (0, 0, (1,)), ((0,), 0, 1), (0, 0, [1]),
                 (0, 0, 1.0), {"a": 1}, Plain(), Touchy()]
        disks = self.start()
        for item in wrong:
            for left in ([item], [(0, 0, 4), item], [item, (1, 2, None)], [(9, 9, 9), item], [item, (0, 0, None)], (item,)):
                self.check_refused(disks, InvalidLeft, "given", left, disks.cut, left)
        for left in no_lists():
            self.check_refused(disks, InvalidLeft, "given", left, disks.cut, left)

    def test_equal_places(self):
        disks = self.start()
        for one, other in itertools.product([None, 0, 4, 9], repeat=2):
            for place in [(0, 0), (1, 2), (0, 1), (9, 9), (-1, 10 ** 59)]:
                left = [(*place, one), (1, 0, 0), (*place, other)]
                self.check_refused(disks, InvalidLeft, "given", left, disks.cut, left)

    def test_nothing_left_and_nothing_pending(self):
        disks = self.start()
        before = disks.settled()
        self.assertIsNone(disks.cut(()))
        self.assertEqual([disks.settled(), disks.pending(), disks.sync()], [before, [], 0])
        self.assertIsNone(disks.cut([]))
        self.check_refused(disks, NotLeft, "item", (0, 0, 2), disks.cut, [(0, 0, 2)])

    def test_writes_that_were_synced_or_lost_are_not_left(self):
        disks = made(4, 2, 6, 3, 13, writes=[(0, 0, 1), (1, 0, 2)])
        disks.sync()
        disks.write(1, 1, 3)
        disks.write(2, 1, 3)
        disks.lose(2)
        for item in [(0, 0, 1), (1, 0, 0), (2, 1, 3), (2, 1, None)]:
            self.check_refused(disks, NotLeft, "item", item, disks.cut, [item])
        disks.replace(2)
        self.check_refused(disks, NotLeft, "item", (2, 1, None), disks.cut, [(2, 1, None)])
        disks.write(2, 1, 3)
        self.assertIsNone(disks.cut([(2, 1, None), (1, 1, 12)]))
        self.assertEqual([disks.settled()[2][1], disks.settled()[1][:2]], [None, [2, 12]])

    def test_a_cut_may_leave_a_disk_in(self):
        disks = made(2, 1, 1, 1, 5, lost=[1], replaced=[1], writes=[(1, 0, 1), (1, 1, 2), (1, 2, 3)])
        self.assertIsNone(disks.cut([(1, 0, 0), (1, 1, 4), (1, 2, 3)]))
        self.assertEqual([disks.inside(), disks.settled()[1]], [[0, 1], [0, 4, 3]])

    def test_no_list_that_is_passed_is_kept_or_changed(self):
        disks = self.start()
        left = [(0, 0, 4), (1, 2, None)]
        disks.cut(left)
        self.assertEqual(left, [(0, 0, 4), (1, 2, None)])
        left.append((2, 3, 1))
        self.assertEqual([disks.settled()[0][0], disks.settled()[2][3], disks.pending()], [4, 0, []])


class Runs(Base):
    def test_long_runs_against_the_model(self):
        for numbers in SOME:
            for seed in range(6):
                self.check_run(numbers, random.Random(seed))

    def check_run(self, numbers, chance):
        disks, model = Disks(Array(*numbers)), OwnDisks(Own(*numbers))
        for _ in range(120):
            self.do(disks, model, chance, chance.choice(["write"] * 8 + ["sync", "lose", "lose", "replace", "cut"]))
            self.assertEqual(state(disks), model.told())

    def do(self, disks, model, chance, act):
        disk = chance.randrange(model.own.n)
        if act == "sync":
            self.assertEqual(disks.sync(), len(model.writes))
            model.settle(model.writes)
        elif act == "cut":
            left = model.some_left(chance)
            disks.cut(left)
            model.settle(left)
        elif act == "replace":
            self.do_or_refuse(disks.replace, model.replace, disk, disk not in model.there)
        elif act == "lose":
            self.do_or_refuse(disks.lose, model.lose, disk, model.may_lose(disk))
        elif disk in model.there:
            write = (disk, chance.randrange(len(model.own.layout(disk))), chance.randrange(model.own.q))
            disks.write(*write)
            model.writes.append(write)

    def do_or_refuse(self, call, same, disk, is_right):
        error = caught(call, disk)
        self.assertEqual(error is None, is_right)
        if is_right:
            same(disk)


if __name__ == "__main__":
    unittest.main()
