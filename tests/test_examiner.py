"""[131] to [134]: the examiner, held against the test's own walks through all cuts and losses."""

import itertools
import random
import unittest

from checks import Checks, caught, no_integers, no_lists, no_tuples
from reckoning import Own, OwnBlocks, choose, subsets, written
from sparesum.arrays import Array
from sparesum.changes import change_groups
from sparesum.errors import (InvalidBlocks, InvalidContent, InvalidGroups, InvalidLot, InvalidNumber, InvalidWish, NotOpen,
                             TooFew, TooMany)
from sparesum.examiner import examine, examine_groups, first_other, left_at, moments, views_left
from sparesum.heads import can_be_left, told
from sparesum.lots import lot_at

VIEWS = [(1, 0, 1, 1, 2), (1, 0, 2, 1, 3), (1, 0, 9, 1, 5), (2, 1, 1, 1, 2), (2, 1, 3, 1, 5), (2, 0, 6, 2, 7), (2, 1, 6, 2, 11), (3, 2, 2, 2, 3),
         (3, 1, 2, 2, 5), (3, 2, 4, 2, 7), (3, 1, 8, 4, 13), (4, 1, 3, 2, 7), (4, 1, 6, 3, 13), (4, 3, 2, 1, 5), (6, 5, 1, 1, 7), (7, 3, 2, 1, 17)]
SMALL = [(1, 0, 1, 1, 2), (1, 0, 2, 1, 3), (1, 0, 2, 2, 3), (2, 1, 1, 1, 2), (2, 1, 2, 1, 3), (2, 0, 2, 1, 3), (2, 1, 2, 1, 5), (3, 1, 1, 1, 3),
         (3, 2, 2, 1, 3), (3, 1, 2, 1, 5), (4, 3, 1, 1, 5)]


def ways(own):
    return ["undone", "done", *range(own.q)]


def states(blocks, groups):
    """The settled blocks and the pending writes at each moment, step by step."""
    settled, pending = blocks, []
    yield settled, pending
    for group in groups:
        for write in group:
            pending = pending + [write]
            yield settled, pending
        settled, pending = written(settled, pending), []
        yield settled, pending


def left_by(state, way):
    settled, pending = state
    rows = [None if row is None else list(row) for row in settled]
    for disk, block, content in pending:
        if way != "undone":
            rows[disk][block] = content if way == "done" else way
    return rows


def own_cases(own, blocks, groups):
    """All cases (moment, way, lost) in their order, each with the blocks that it leaves."""
    ins = own.inside(blocks)
    losses = sorted(subsets(ins, len(ins) - own.d), key=lambda lost: (len(lost), lost))
    for moment, state in enumerate(states(blocks, groups)):
        for way in ways(own):
            for lost in losses:
                yield (moment, way, lost), [None if disk in lost else row for disk, row in enumerate(left_by(state, way))]


def own_examined(own, blocks, wish, groups):
    """What examine_groups and first_other tell, by going through all cases."""
    old = own.read(blocks)
    new = own.granted(old, wish)
    counts, first, kept = [0, 0, 0], None, {}
    for case, left in own_cases(own, blocks, groups):
        key = repr(left)
        if key not in kept:
            opened = left
            for group in own.finish(left):
                opened = written(opened, group)
            told_then = own.read(opened)
            kept[key] = 0 if told_then == old else 1 if told_then == new else 2
        counts[kept[key]] += 1
        if kept[key] == 2 and first is None:
            first = case
    return tuple(counts), first


def cost(own, blocks, groups):
    """The number of cases times the number of all blocks."""
    ins = own.inside(blocks)
    sets = sum(choose(len(ins), size) for size in range(len(ins) - own.d + 1))
    count = sum(len(group) + 1 for group in groups) + 1
    return count * (own.q + 2) * sets * sum(own.sizes())


def changing(own, records, fewer=0):
    count = own.k - fewer
    return [(record, tuple((item + 1 + spot) % own.q for spot, item in enumerate(records[record])))
            for record in range(own.m - count, own.m)]


def losses_ahead(own, blocks):
    """The blocks with each set of disks that are not in: lost, or there with a block that is not."""
    for lost in subsets(range(own.n), own.f):
        for kind in ("lost", "not in") if lost else ("lost",):
            rows = [list(row) for row in blocks]
            for disk in lost:
                rows[disk] = None if kind == "lost" else rows[disk][:-1] + [None]
            yield rows


def as_tuples(rows):
    return tuple(None if row is None else tuple(row) for row in rows)


class ViewsLeft(Checks, unittest.TestCase):
    def own_views(self, own, number):
        """By setting from all 0, and by clearing from all right, with the loss ahead of it or behind the cut."""
        word, found = own.word_of_number(number), set()
        for begin, end in ([0] * own.H, list(word)), (list(word), [0] * own.H):
            order = range(own.H) if end == list(word) else range(own.H - 1, -1, -1)
            for lost in subsets(range(own.n), own.f):
                heads = list(begin)
                found.add(self.frozen(own, heads, lost))
                for head in order:
                    for content in range(own.q):
                        found.add(self.frozen(own, heads[:head] + [content] + heads[head + 1:], lost))
                    heads[head] = end[head]
                    found.add(self.frozen(own, heads, lost))
        return [list(view) for view in sorted(found)]

    def frozen(self, own, heads, lost):
        return tuple((head, content) for head, content in enumerate(heads) if head % own.n not in lost)

    def numbers(self, own):
        return sorted({0, 1, own.lots // 2, own.lots - 1} & set(range(own.lots)))

    def test_examples(self):
        self.check_same([[(0, 0)], [(0, 1)], [(0, 2)]], views_left(Array(1, 0, 1, 1, 3), [0]))
        self.check_same([[(0, 0)], [(0, 0), (1, 0)], [(0, 1)], [(0, 1), (1, 0)], [(0, 1), (1, 1)], [(1, 0)], [(1, 1)]],
                        views_left(Array(2, 1, 1, 1, 2), [0]))

    def test_all_views_once_and_ascending(self):
        for numbers in VIEWS:
            array, own = Array(*numbers), OwnBlocks(*numbers)
            for number in self.numbers(own):
                lot = own.all_lots()[number]
                wanted = self.own_views(own, number)
                for form in (lot, tuple(lot)):
                    self.check_same(wanted, views_left(array, form))
                self.assertEqual(wanted, sorted(wanted))

    def test_each_can_be_left_and_tells_the_lot_or_none(self):
        for numbers in VIEWS:
            array, own = Array(*numbers), OwnBlocks(*numbers)
            for number in self.numbers(own):
                lot, tells = lot_at(array, number), {}
                for view in views_left(array, lot):
                    self.assertIs(can_be_left(array, view, lot), True)
                    self.assertIn(told(array, view), [lot, None])
                    tells[told(array, view) is None] = True
                self.assertEqual(sorted(tells), [False, True])

    def test_as_many_disks_lost_as_may_be(self):
        views = views_left(Array(4, 3, 2, 1, 5), [1])
        self.assertEqual(sorted({len({head % 4 for head, _ in view}) for view in views}), [1, 2, 3, 4])
        self.assertTrue(all(len(view) == 2 for view in views_left(Array(2, 0, 2, 1, 3), [1])))

    def test_wrong_lots(self):
        for numbers in [(2, 1, 3, 2, 5), (12, 11, 24, 12, 997), (11, 10, 4, 2, 11), (1, 0, 24, 12, 997)]:
            array, own = Array(*numbers), OwnBlocks(*numbers)
            lot = list(range(own.k))
            for value in [*no_lists(), [], lot[:-1], lot[::-1], lot + [own.m - 1], lot[:-1] + [own.m], [-1] + lot[1:], [False] + lot[1:], [lot]]:
                self.check_given(InvalidLot, value, views_left, array, value)

    def test_around_the_limit(self):
        below, above = {}, {}
        for n, m in itertools.product(range(1, 13), (1, 2, 3, 9)):
            for f, q in itertools.product(range(n), (2, 3, 5, 7, 11, 13, 17, 19, 23, 29, 31, 37, 41, 97, 499, 997)):
                own = Own(n, f, m, 1, q)
                if q >= n and own.j is not None:
                    count = (own.H * q + 1) * 2 ** n
                    (below if count <= 20000 else above)[count] = (n, f, m, 1, q)
        for count in sorted(above)[:4] + sorted(above)[-4:]:
            own, array = OwnBlocks(*above[count]), Array(*above[count])
            for lot in own.all_lots()[:2]:
                self.check_count(TooMany, count, views_left, array, lot)
            wrong = [own.m]
            self.check_given(InvalidLot, wrong, views_left, array, wrong)
        self.assertLess(sorted(above)[0] - sorted(below)[-1], 400)
        for count in sorted(below)[-4:]:
            own, array = OwnBlocks(*below[count]), Array(*below[count])
            self.check_same(self.own_views(own, own.lots - 1), views_left(array, own.all_lots()[-1]))

    def test_told_lists_are_new(self):
        found = self.check_new_lists(views_left, Array(2, 1, 1, 1, 2), [0])
        found[0].append(9)
        found.append(9)


class Moments(Checks, unittest.TestCase):
    def test_examples(self):
        array, blocks = Array(1, 0, 1, 1, 3), [[1, 0, 0]]
        self.check_same(9, moments(array, blocks, [(0, (2,))]))
        self.check_same([[1, 2, 2]], left_at(array, blocks, [(0, (2,))], 3, 2))

    def test_every_moment_in_every_way(self):
        for numbers in SMALL[:8] + [(3, 1, 2, 2, 5)]:
            array, own = Array(*numbers), OwnBlocks(*numbers)
            records = own.some_records(1)
            for blocks in losses_ahead(own, own.good(records, 1)):
                for wish in ([], changing(own, records), [(0, records[0])]):
                    self.check_moments(array, own, blocks, wish)

    def check_moments(self, array, own, blocks, wish):
        rows = list(states(blocks, own.change(blocks, wish) if wish else []))
        self.check_same(len(rows), moments(array, blocks, wish))
        self.check_same(len(rows), moments(array, as_tuples(blocks), tuple(wish)))
        for moment, state in enumerate(rows):
            for way in ways(own):
                wanted = left_by(state, way)
                self.check_same(wanted, left_at(array, blocks, wish, moment, way))
                self.check_same(wanted, left_at(array, as_tuples(blocks), tuple(wish), moment, way))
                for disk in range(own.n):
                    if disk not in own.inside(blocks):
                        self.assertEqual(wanted[disk], blocks[disk])

    def test_an_empty_wish_has_one_moment(self):
        array, blocks = Array(2, 1, 2, 1, 5), [[3, 1, 0, 0, 4], None]
        self.check_same(1, moments(array, blocks, []))
        for way in ways(OwnBlocks(2, 1, 2, 1, 5)):
            self.check_same(blocks, left_at(array, blocks, [], 0, way))

    def test_values_near_moments_and_ways(self):
        for numbers in [(1, 0, 1, 1, 3), (2, 1, 2, 1, 5), (3, 1, 2, 2, 5)]:
            array, own = Array(*numbers), OwnBlocks(*numbers)
            blocks = own.good(own.some_records(1))
            for wish in ([], changing(own, own.some_records(1))):
                count = moments(array, blocks, wish)
                for moment in [-1, count, count + 1, 10 ** 59, *no_integers()]:
                    for way in ("done", 0, own.q, None, "torn"):
                        self.check_given(InvalidNumber, moment, left_at, array, blocks, wish, moment, way)
                for way in [-1, own.q, own.q + 1, 10 ** 59, "Done", "undo", "done ", "0", ("done",), ["done"], *no_integers()]:
                    for moment in (0, count - 1):
                        self.check_given(InvalidContent, way, left_at, array, blocks, wish, moment, way)

    def test_told_lists_are_new(self):
        array, blocks = Array(2, 1, 2, 1, 5), [[3, 1, 0, 0, 4], [3, 1, 0, 0, None]]
        for moment in range(8):
            for way in ("undone", "done", 3):
                found = self.check_new_lists(left_at, array, blocks, [(1, (2,))], moment, way)
                found[0].append(9)
                found[1].append(9)
        self.assertEqual(blocks, [[3, 1, 0, 0, 4], [3, 1, 0, 0, None]])


class Refused(Checks, unittest.TestCase):
    """The errors of all five, in their order."""

    def calls(self, groups):
        """Each function with what it is passed behind the wish."""
        return [(moments, []), (left_at, [0, "done"]), (left_at, [-1, None]), (examine, []), (examine_groups, [groups]),
                (examine_groups, [None]), (first_other, [groups]), (first_other, [[[0]]])]

    def test_blocks_wishes_too_few_and_not_open(self):
        for numbers in [(1, 0, 1, 1, 3), (2, 1, 2, 1, 5), (3, 1, 2, 2, 5), (12, 11, 24, 12, 997)]:
            array, own = Array(*numbers), OwnBlocks(*numbers)
            good = own.good(own.some_records(1))
            few = [None] * (own.f + 1) + good[own.f + 1:]
            torn = written(good, [(own.n - 1, block, 1) for what, block in own.places[own.n - 1].items() if what[0] == "head"]
                           + [(0, own.m, 1)])
            wrong = [None, [(own.m, (0,) * own.d)], [(0, [0] * own.d)], [[0, (0,) * own.d]], {}]
            for function, behind in self.calls([]):
                for wish in [*wrong, [], changing(own, own.some_records(1))]:
                    for blocks in (good[:-1], None, [[own.q]] * own.n, dict(enumerate(good))):
                        self.check_given(InvalidBlocks, blocks, function, array, blocks, wish, *behind)
                for wish in wrong:
                    for blocks in (good, few, torn):
                        self.check_given(InvalidWish, wish, function, array, blocks, wish, *behind)
                for wish in ([], [(0, (1,) * own.d)]):
                    self.check_count(TooFew, own.d - 1, function, array, few, wish, *behind)
                    if function not in (examine_groups, first_other):
                        self.assertIs(type(caught(function, array, torn, wish, *behind)), NotOpen)

    def near_groups(self, own, blocks):
        out = [disk for disk in range(own.n) if disk not in own.inside(blocks)]
        ins = own.inside(blocks)
        yield from no_lists()
        right = (ins[0], 0, 0)
        wrong = [*no_tuples(), (), (ins[0], 0), (ins[0], 0, 0, 0), list(right), (-1, 0, 0), (own.n, 0, 0), (10 ** 59, 0, 0),
                 (ins[0], -1, 0), (ins[0], own.sizes()[ins[0]], 0), (ins[0], 0, -1), (ins[0], 0, own.q), (ins[0], 0, 10 ** 59),
                 *[(disk, 0, 0) for disk in out], (right,)]
        for item in no_integers():
            wrong += [(item, 0, 0), (ins[0], item, 0), (ins[0], 0, item)]
        for item in wrong:
            yield [[item]]
            yield [[right], [right, item]]
            yield ([], (right, item), [right])
        for group in [*no_lists(), right]:
            yield [group]
            yield [[right], [], group]

    def test_values_near_groups(self):
        for numbers in [(1, 0, 1, 1, 3), (2, 1, 2, 1, 5), (3, 1, 2, 2, 5)]:
            array, own = Array(*numbers), OwnBlocks(*numbers)
            for blocks in losses_ahead(own, own.good(own.some_records(1))):
                for groups in self.near_groups(own, blocks):
                    for function in (examine_groups, first_other):
                        self.check_given(InvalidGroups, groups, function, array, blocks, [], groups)

    def test_wrong_groups_ahead_of_too_many(self):
        array, blocks = Array(1, 0, 1, 1, 3), [[1, 0, 0]]
        for function in (examine_groups, first_other):
            many = [[]] * 2000 + [[(0, 0, 3)]]
            self.check_given(InvalidGroups, many, function, array, blocks, [], many)
            self.check_count(TooMany, 30015 + 15, function, array, blocks, [], many[:-1] + [[]])

    def test_too_many_by_groups(self):
        # 3 blocks, 5 ways: 15 for each moment, and so 30000 for 2000 moments.
        array, own, blocks = Array(1, 0, 1, 1, 3), OwnBlocks(1, 0, 1, 1, 3), [[1, 0, 0]]
        for wish in ([], [(0, (2,))]):
            self.check_same((10000, 0, 0), examine_groups(array, blocks, wish, [[]] * 1999))
            self.assertIsNone(first_other(array, blocks, wish, [[]] * 1999))
            for count in (2000, 2001, 5000):
                self.check_count(TooMany, 15 * (count + 1), examine_groups, array, blocks, wish, [[]] * count)
                self.check_count(TooMany, 15 * (count + 1), first_other, array, blocks, wish, [[]] * count)
            groups = [[(0, 2, 1)] * 998, [(0, 0, 2)] * 999]
            self.assertEqual(cost(own, blocks, groups), 30000)
            self.assertEqual(sum(examine_groups(array, blocks, [], groups)), 10000)
            self.check_count(TooMany, 30015, examine_groups, array, blocks, wish, groups[:1] + [groups[1] + [(0, 0, 2)]])
            # The case in which the last groups come out wrong is there, however late.
            late = [[]] * 1997 + [[(0, 0, 2)]]
            self.check_same((1998, "done", []), first_other(array, blocks, [(0, (1,))], late))

    def test_too_many_by_losses(self):
        # Each set of disks that may be lost counts; a disk that is not in takes some away.
        array, own = Array(3, 2, 1, 1, 3), OwnBlocks(3, 2, 1, 1, 3)
        blocks = own.good([(1,)])
        for lost, sets in [((), 7), ((1,), 3), ((0, 2), 1)]:
            rows = [None if disk in lost else row for disk, row in enumerate(blocks)]
            unit = 5 * sets * sum(own.sizes())
            most = 30000 // unit
            self.assertEqual(cost(own, rows, [[]] * (most - 1)), unit * most)
            self.check_same((most * 5 * sets, 0, 0), examine_groups(array, rows, [], [[]] * (most - 1)))
            self.check_count(TooMany, unit * (most + 1), examine_groups, array, rows, [], [[]] * most)

    def test_too_many_of_a_change(self):
        below, above = {}, {}
        for n, m in itertools.product((1, 2, 3), (1, 2, 3)):
            for f, k, q in itertools.product(range(n), range(1, m + 1), (5, 7, 11, 13, 17, 19, 23, 29, 31, 37, 41, 43, 47, 53, 59, 61, 67, 71)):
                own = OwnBlocks(n, f, m, k, q)
                blocks = own.good(own.some_records(1))
                groups = own.change(blocks, [(0, (1,) * own.d)])
                count = cost(own, blocks, groups)
                (below if count <= 30000 else above)[count] = own
        self.assertLess(min(above) - max(below), 1000)
        for count in sorted(above)[:4] + sorted(above)[-2:]:
            own = above[count]
            array, blocks = Array(own.n, own.f, own.m, own.k, own.q), own.good(own.some_records(1))
            self.check_count(TooMany, count, examine, array, blocks, [(0, (1,) * own.d)])
            groups = own.change(blocks, [(0, (1,) * own.d)])
            self.check_count(TooMany, count, examine_groups, array, blocks, [], groups)
            self.check_count(TooMany, count, first_other, array, blocks, [], groups)
            torn = written(blocks, [(0, own.m, 1)])
            self.assertIs(type(caught(examine, array, torn, [(0, (1,) * own.d)])), NotOpen)
        for count in sorted(below)[-2:]:
            own = below[count]
            array, blocks = Array(own.n, own.f, own.m, own.k, own.q), own.good(own.some_records(1))
            self.assertEqual(sum(examine(array, blocks, [(0, (1,) * own.d)])) * sum(own.sizes()), count)


class Examined(Checks, unittest.TestCase):
    def test_examples(self):
        array, blocks, wish = Array(1, 0, 1, 1, 3), [[1, 0, 0]], [(0, (2,))]
        self.check_same((17, 28, 0), examine(array, blocks, wish))
        self.check_same((7, 7, 1), examine_groups(array, blocks, wish, [[(0, 0, 2)]]))
        self.check_same((1, 0, []), first_other(array, blocks, wish, [[(0, 0, 2)]]))

    def check_examined(self, array, own, blocks, wish, groups):
        counts, first = own_examined(own, blocks, wish, groups)
        self.check_same(counts, examine_groups(array, blocks, wish, groups))
        self.check_same(first, first_other(array, blocks, wish, groups))
        return counts

    def test_all_changes_of_small_arrays(self):
        checked = 0
        for numbers in SMALL:
            array, own = Array(*numbers), OwnBlocks(*numbers)
            records = own.some_records(1)
            for blocks in losses_ahead(own, own.good(records, 1)):
                for wish in ([], changing(own, records), [(0, records[0])], changing(own, records, own.k - 1)):
                    groups = own.change(blocks, wish) if wish else []
                    if cost(own, blocks, groups) > 9000:
                        continue
                    checked += 1
                    counts = self.check_examined(array, own, blocks, wish, groups)
                    self.check_same(counts, examine(array, blocks, wish))
                    self.check_same(counts, examine(array, as_tuples(blocks), tuple(wish)))
                    self.assertEqual(counts[2], 0)
                    self.assertEqual(counts[1] > 0, own.granted(records, wish) != records)
        self.assertGreater(checked, 100)

    def test_as_change_groups_tells(self):
        for numbers in SMALL[:6]:
            array, own = Array(*numbers), OwnBlocks(*numbers)
            records = own.some_records(2)
            blocks, wish = own.good(records), changing(own, records)
            groups = change_groups(array, blocks, wish)
            for form in (groups, tuple(map(tuple, groups))):
                self.check_same(examine(array, blocks, wish), examine_groups(array, blocks, wish, form))
                self.assertIsNone(first_other(array, blocks, wish, form))

    def orders(self, own, groups):
        """Groups in which something is wrong, or only unlike, each with a name; of a change with heads."""
        news, heads, homes, clears = groups[0], groups[1:own.H + 1], groups[own.H + 1], groups[own.H + 2:]
        yield "homes ahead of heads", [news, homes, *heads, *clears]
        yield "all heads at once", [news, [head[0] for head in heads], homes, *clears]
        yield "cleared in ascending order", [news, *heads, homes, *clears[::-1]]
        yield "heads ahead of new blocks", [*heads, news, homes, *clears]
        yield "without new blocks", [*heads, homes, *clears]
        yield "set in descending order", [news, *heads[::-1], homes, *clears]
        yield "all cleared at once", [news, *heads, homes, [head[0] for head in clears]]
        yield "homes behind the clearing", [news, *heads, *clears, homes]
        yield "new blocks one by one", [*[[write] for write in news], *heads, homes, *clears]
        yield "not cleared", [news, *heads, homes]

    def test_orders_that_are_wrong(self):
        wrong = {}
        for numbers in [(1, 0, 2, 1, 3), (2, 1, 2, 1, 3), (3, 2, 2, 1, 3), (2, 0, 4, 2, 7), (3, 1, 2, 1, 5), (2, 1, 2, 1, 5), (1, 0, 9, 1, 5)]:
            array, own = Array(*numbers), OwnBlocks(*numbers)
            for seed in (1, 2) if own.n == 1 else (1,):
                records = own.some_records(seed)
                blocks, wish = own.good(records, seed), changing(own, records)
                for name, groups in self.orders(own, own.change(blocks, wish)):
                    if cost(own, blocks, groups) <= 20000:
                        counts = self.check_examined(array, own, blocks, wish, groups)
                        wrong[name] = wrong.get(name, 0) + counts[2]
        right = ["new blocks one by one", "not cleared"]
        for name, count in wrong.items():
            self.assertEqual(count == 0, name in right, (name, count))

    def test_drawn_groups(self):
        chance, others = random.Random(134), 0
        for numbers in SMALL:
            array, own = Array(*numbers), OwnBlocks(*numbers)
            for _ in range(12):
                lost = chance.sample(range(own.n), chance.randint(0, own.f))
                blocks = [None if disk in lost else [chance.randrange(own.q) for _ in range(size)] for disk, size in enumerate(own.sizes())]
                ins = own.inside(blocks)
                places = [(disk, block) for disk in ins for block in range(own.sizes()[disk])]
                groups = [[(*chance.choice(places), chance.randrange(own.q)) for _ in range(chance.randrange(4))]
                          for _ in range(chance.randrange(4))]
                if cost(own, blocks, groups) <= 30000:
                    others += self.check_examined(array, own, blocks, changing(own, own.read(blocks)), groups)[2] > 0
        self.assertGreater(others, 30)

    def test_heads_that_are_not_0(self):
        # What read tells of the blocks is old, also where heads tell a lot.
        array, own = Array(2, 1, 2, 1, 5), OwnBlocks(2, 1, 2, 1, 5)
        blocks, wish = own.good([(3,), (1,)], 1), [(1, (2,))]
        groups = own.change(blocks, wish)
        for count in range(len(groups)):
            start = blocks
            for group in groups[:count]:
                start = written(start, group)
            old = own.read(start)
            self.assertEqual(old, [(3,), (1 if count < 3 else 2,)], count)
            counts = self.check_examined(array, own, start, wish, groups[count:])
            # Some heads tell the wish, and without a disk they do not: such blocks no cut of a rightful change is behind.
            self.assertEqual(counts[2] > 0, count in (3, 4))
            self.assertEqual(counts[1] > 0, count < 3)
            self.check_examined(array, own, start, [(1, (4,))], groups[count:])

    def test_no_groups_and_empty_groups(self):
        for numbers in SMALL:
            array, own = Array(*numbers), OwnBlocks(*numbers)
            records = own.some_records(1)
            for blocks in losses_ahead(own, own.good(records, 1)):
                ins = own.inside(blocks)
                sets = sum(choose(len(ins), size) for size in range(len(ins) - own.d + 1))
                for groups in ([], (), [[]], ((), [], ())):
                    wanted = ((own.q + 2) * sets * (len(groups) + 1), 0, 0)
                    for wish in ([], changing(own, records)):
                        self.check_same(wanted, examine_groups(array, blocks, wish, groups))
                        self.assertIsNone(first_other(array, blocks, wish, groups))

    def test_a_block_written_more_than_once(self):
        array, own, blocks = Array(1, 0, 1, 1, 5), OwnBlocks(1, 0, 1, 1, 5), [[1, 0, 0]]
        for groups in ([[(0, 0, 2), (0, 0, 3)]], [[(0, 0, 3), (0, 0, 2)]], [[(0, 0, 2), (0, 0, 2), (0, 0, 1)], [(0, 0, 2)]],
                       [[(0, 1, 1), (0, 0, 4), (0, 1, 0)], [], [(0, 2, 3), (0, 2, 2), (0, 1, 4)]]):
            for wish in ([], [(0, (2,))], [(0, (3,))]):
                self.check_examined(array, own, blocks, wish, groups)
        # Done in their order: the last of the two tells, and the content 3 of a cut is the wish.
        self.check_same((1, 0, []), first_other(array, blocks, [(0, (3,))], [[(0, 0, 3), (0, 0, 2)]]))

    def test_a_wish_that_changes_nothing_counts_as_old(self):
        for numbers in SMALL[:6]:
            array, own = Array(*numbers), OwnBlocks(*numbers)
            records = own.some_records(1)
            blocks = own.good(records, 1)
            counts = examine(array, blocks, [(0, records[0])])
            self.assertEqual(counts[1:], (0, 0))
            self.assertEqual(counts[0] * sum(own.sizes()), cost(own, blocks, own.change(blocks, [(0, records[0])])))

    def test_the_first_case(self):
        # Smaller sets of lost disks come first, of equally large ones the least, "undone" and "done" ahead of contents.
        array, own = Array(3, 2, 1, 1, 3), OwnBlocks(3, 2, 1, 1, 3)
        blocks = own.good([(1,)])
        found = {}
        for writes in itertools.product([(disk, 0, content) for disk in range(3) for content in (1, 2)], repeat=2):
            for groups in ([list(writes)], [[writes[0]], [writes[1]]], [[], list(writes)]):
                for wish in ([], [(0, (2,))], [(0, (0,))]):
                    _, first = own_examined(own, blocks, wish, groups)
                    self.check_same(first, first_other(array, blocks, wish, groups))
                    if first is not None:
                        found[repr(first[1:])] = True
        self.assertGreaterEqual(len(found), 4)
        self.assertTrue(any("done" in key for key in found) and any("[0, 1]" in key for key in found))

    def test_told_lists_are_new(self):
        array, blocks = Array(1, 0, 1, 1, 3), [[1, 0, 0]]
        found = self.check_new_lists(first_other, array, blocks, [(0, (2,))], [[(0, 0, 2)]])
        found[2].append(9)
        self.check_same((1, 0, []), first_other(array, blocks, [(0, (2,))], [[(0, 0, 2)]]))


if __name__ == "__main__":
    unittest.main()
