"""[91], [92], [93], [94]: the writes of a change and of an opening, and what is told when they are cut anywhere."""

import itertools
import random
import unittest

from checks import Checks, caught, no_integers, no_lists, no_tuples
from reckoning import OwnBlocks, subsets, written
from sparesum.arrays import Array
from sparesum.changes import change_groups, finish_groups, granted, is_wish
from sparesum.errors import InvalidBlocks, InvalidTold, InvalidWish, NotOpen, TooFew
from sparesum.meaning import read

SOME = [(1, 0, 1, 1, 2), (1, 0, 2, 1, 3), (2, 1, 1, 1, 2), (2, 1, 2, 1, 5), (3, 1, 2, 1, 5), (3, 1, 2, 2, 5), (3, 2, 4, 2, 7),
        (4, 1, 3, 2, 7), (4, 1, 6, 3, 13), (2, 0, 6, 2, 7), (4, 0, 7, 3, 7), (3, 1, 8, 4, 13), (2, 1, 6, 2, 11), (12, 6, 5, 2, 13)]

# All that any cut leaves is gone through: each write undone, done or with any content, and all losses.
CUT = [(1, 0, 1, 1, 2), (1, 0, 2, 1, 3), (1, 0, 2, 2, 3), (1, 0, 9, 1, 5), (2, 1, 1, 1, 2), (2, 1, 2, 1, 3), (2, 1, 2, 1, 5),
       (2, 1, 2, 2, 3), (2, 0, 2, 1, 3), (3, 2, 1, 1, 3), (3, 1, 2, 1, 3), (3, 2, 2, 1, 3), (4, 3, 1, 1, 5)]

# Cuts of these are drawn.
DRAWN = [(4, 1, 6, 3, 13), (3, 1, 8, 4, 13), (2, 1, 6, 2, 11), (4, 2, 3, 2, 7), (5, 3, 2, 2, 5), (12, 6, 5, 2, 13)]


def some_wishes(own, chance, count):
    """Wishes of none to as many records as may change."""
    for size in range(own.k + 1):
        for _ in range(count):
            records = sorted(chance.sample(range(own.m), size))
            yield [(record, tuple(chance.randrange(own.q) for _ in range(own.d))) for record in records]


def any_blocks(own, chance, ins, heads):
    blocks = [[chance.randrange(own.q) for _ in range(size)] if disk in ins else None
              for disk, size in enumerate(own.sizes())]
    for head, content in enumerate(heads):
        if head % own.n in ins:
            blocks[head % own.n][own.places[head % own.n][("head", head)]] = content
    return blocks


class Wishes(Checks, unittest.TestCase):
    def test_examples(self):
        array = Array(2, 1, 2, 1, 5)
        blocks = [[3, 1, 0, 0, 4], [3, 1, 0, 0, 2]]
        self.assertEqual(change_groups(array, blocks, [(1, (2,))]), [
            [(0, 4, 2), (1, 4, 2)], [(0, 2, 2)], [(1, 2, 2)], [(0, 3, 2)], [(1, 3, 2)], [(0, 1, 2), (1, 1, 2)],
            [(1, 3, 0)], [(0, 3, 0)], [(1, 2, 0)], [(0, 2, 0)]])
        self.assertEqual(finish_groups(array, [[3, 1, 2, 0, 2], [3, 4, 2, 0, 2]]), [
            [(0, 3, 2)], [(1, 3, 2)], [(0, 1, 2), (1, 1, 2)], [(1, 3, 0)], [(0, 3, 0)], [(1, 2, 0)], [(0, 2, 0)]])
        self.assertEqual(finish_groups(array, [[3, 1, 4, 0, 2], None]), [[(0, 2, 0)]])
        self.assertEqual(granted(array, [(3,), (1,)], [(1, (2,))]), [(3,), (2,)])
        self.assertIs(type(caught(change_groups, array, [[3, 1, 4, 0, 2], None], [])), NotOpen)

    def test_all_wishes_of_small_arrays(self):
        for numbers in [(1, 0, 2, 1, 3), (2, 1, 2, 1, 5), (2, 1, 2, 2, 3), (3, 1, 2, 2, 3)]:
            array, own = Array(*numbers), OwnBlocks(*numbers)
            contents = list(itertools.product(range(own.q), repeat=own.d))
            told = own.some_records(1)
            for records in subsets(range(own.m), own.k):
                for row in itertools.product(contents, repeat=len(records)):
                    self.check_wish(array, own, told, list(zip(records, row)))

    def check_wish(self, array, own, told, wish):
        self.assertIs(is_wish(array, wish), True)
        self.assertIs(is_wish(array, tuple(wish)), True)
        self.check_same(own.granted(told, wish), granted(array, told, wish))
        self.check_same(own.granted(told, wish), granted(array, tuple(told), tuple(wish)))

    def test_wishes_of_all_sizes(self):
        chance = random.Random(91)
        for numbers in SOME + [(12, 11, 24, 24, 13), (8, 2, 18, 3, 821), (1, 0, 24, 12, 997)]:
            array, own = Array(*numbers), OwnBlocks(*numbers)
            for wish in some_wishes(own, chance, 4):
                self.check_wish(array, own, own.some_records(2), wish)

    def near_wishes(self, own):
        """Values that are no wishes, with one item changed, or too many of them."""
        right = [(record, (0,) * own.d) for record in range(own.k)]
        yield from no_lists()
        yield [(record, (0,) * own.d) for record in range(own.k + 1)]
        yield from [right + right[-1:], [(own.m, (0,) * own.d)], [right], [[]], [()], {0: (0,) * own.d}, "0"]
        if own.k > 1:
            yield from [right[::-1], [right[0], right[0]], [right[1], right[0]], [(0, (0,) * own.d), (0, (1,) * own.d)]]
        contents = [*no_tuples(), [0] * own.d, (0,) * (own.d + 1), (0,) * (own.d - 1), ((0,) * own.d,)]
        for at in range(own.d):
            for item in [-1, own.q, own.q + 1, 10 ** 59, *no_integers()]:
                contents.append((0,) * at + (item,) + (0,) * (own.d - at - 1))
        wrong = [(0, item) for item in contents]
        wrong += [(item, (0,) * own.d) for item in [-1, own.m, own.m + 1, 10 ** 59, *no_integers()]]
        wrong += [*no_tuples(), (), (0,), (0, (0,) * own.d, 0), [0, (0,) * own.d], ((0,) * own.d, 0)]
        for item in wrong:
            yield [item]
            yield right[:-1] + [item] if own.k > 1 else [item]

    def test_values_near_wishes(self):
        for numbers in SOME:
            array, own = Array(*numbers), OwnBlocks(*numbers)
            told, blocks = own.some_records(0), own.good(own.some_records(0))
            for wish in self.near_wishes(own):
                for value in (wish, tuple(wish)) if isinstance(wish, list) else (wish,):
                    self.assertIs(is_wish(array, value), False)
                    self.check_given(InvalidWish, value, granted, array, told, value)
                    self.check_given(InvalidWish, value, change_groups, array, blocks, value)

    def test_wrong_records_told(self):
        for numbers in SOME:
            array, own = Array(*numbers), OwnBlocks(*numbers)
            right = own.some_records(0)
            wrong = [*no_lists(), [], right[:-1], right + right[:1], [right], [list(row) for row in right]]
            for at in sorted({0, own.m - 1}):
                for item in [*no_tuples(), (), right[0] + (0,), right[0][1:], (-1,) * own.d, (own.q,) * own.d, (True,) * own.d,
                             right[0][:-1] + (None,), list(right[0])]:
                    wrong.append(right[:at] + [item] + right[at + 1:])
            for told in wrong:
                for wish in ([], None, [(own.m, ())]):
                    self.check_given(InvalidTold, told, granted, array, told, wish)

    def test_granted_is_a_new_list(self):
        array = Array(3, 1, 2, 1, 5)
        told, wish = [(1, 2), (3, 4)], [(1, (0, 0))]
        found = self.check_new_lists(granted, array, told, wish)
        found.append(7)
        self.assertEqual([told, wish, granted(array, told, [])], [[(1, 2), (3, 4)], [(1, (0, 0))], told])
        self.assertIsNot(granted(array, told, []), told)


class Groups(Checks, unittest.TestCase):
    def test_changes_write_by_write(self):
        chance = random.Random(92)
        for numbers in SOME:
            array, own = Array(*numbers), OwnBlocks(*numbers)
            for wish in some_wishes(own, chance, 6):
                ins = sorted(chance.sample(range(own.n), chance.randint(own.d, own.n)))
                blocks = any_blocks(own, chance, ins, [0] * own.H)
                wanted = own.change(blocks, wish) if wish else []
                self.check_same(wanted, change_groups(array, blocks, wish))
                self.check_same(wanted, change_groups(array, tuple(map(lambda row: row and tuple(row), blocks)), tuple(wish)))

    def test_a_change_of_one_record_by_the_words(self):
        # Disks 0, 2, 3 are in; the lot for record 3 is [0, 1, 3], the one with the number 1: its word is (1, 2, 3, 4).
        array, own = Array(4, 1, 6, 3, 13), OwnBlocks(4, 1, 6, 3, 13)
        blocks = own.good(own.some_records(2), 1, [1])
        words = [own.row_word(contents) for contents in [own.some_records(2)[0], own.some_records(2)[1], (7, 8, 9)]]
        self.assertEqual([len(row or []) for row in blocks], [10, 0, 10, 10])
        wanted = [[(disk, 7 + index, words[index][disk]) for index in range(3) for disk in (0, 2, 3)],
                  [(0, 6, 1)], [(2, 6, 3)], [(3, 6, 4)],
                  [(disk, record, words[index][disk]) for index, record in enumerate([0, 1, 3]) for disk in (0, 2, 3)],
                  [(3, 6, 0)], [(2, 6, 0)], [(0, 6, 0)]]
        self.check_same(wanted, change_groups(array, blocks, [(3, (7, 8, 9))]))

    def test_a_disk_without_heads(self):
        array, own = Array(4, 1, 3, 2, 7), OwnBlocks(4, 1, 3, 2, 7)
        groups = change_groups(array, own.good(own.some_records(1)), [(2, (1, 2, 3))])
        self.assertEqual([len(group) for group in groups], [8, 1, 1, 1, 8, 1, 1, 1])
        groups = change_groups(array, own.good(own.some_records(1), 0, [2]), [(2, (1, 2, 3))])
        self.assertEqual([len(group) for group in groups], [6, 1, 1, 6, 1, 1])

    def test_finishings_write_by_write(self):
        chance = random.Random(93)
        for numbers in SOME:
            array, own = Array(*numbers), OwnBlocks(*numbers)
            for _ in range(60):
                ins = sorted(chance.sample(range(own.n), chance.randint(own.d, own.n)))
                number = chance.randrange(own.lots)
                heads = list(own.word_of_number(number))
                t = chance.randrange(own.H + 1)
                heads[t:] = [0] * (own.H - t)
                if t < own.H:
                    heads[t] = chance.randrange(own.q)
                if chance.random() < 0.3:
                    heads = [chance.randrange(own.q) for _ in heads]
                blocks = any_blocks(own, chance, ins, heads)
                self.check_same(own.finish(blocks), finish_groups(array, blocks))
                self.check_same(own.finish(blocks), finish_groups(array, tuple(map(lambda row: row and tuple(row), blocks))))

    def test_nothing_to_finish(self):
        for numbers in SOME:
            array, own = Array(*numbers), OwnBlocks(*numbers)
            self.assertEqual(finish_groups(array, own.good(own.some_records(3), 2)), [])
            self.assertEqual(finish_groups(array, [[0] * size for size in own.sizes()]), [])

    def test_all_heads_right(self):
        for numbers in SOME:
            array, own = Array(*numbers), OwnBlocks(*numbers)
            blocks = own.good(own.some_records(3), 2)
            blocks = written(blocks, [write for group in own.head_groups(blocks, own.word_of_number(0)) for write in group])
            groups = finish_groups(array, blocks)
            self.assertEqual([len(group) for group in groups], [own.k * own.n] + [1] * own.H)
            self.check_same(own.finish(blocks), groups)

    def test_results_are_new_lists(self):
        array, blocks = Array(2, 1, 2, 1, 5), [[3, 1, 2, 0, 2], [3, 4, 2, 0, 2]]
        for found in [self.check_new_lists(finish_groups, array, blocks),
                      self.check_new_lists(change_groups, array, [[3, 1, 0, 0, 4], [3, 1, 0, 0, 2]], [(1, (2,))])]:
            found[0].append((9, 9, 9))
            found.append([])
        self.assertNotIn([], finish_groups(array, blocks))


class WrongArguments(Checks, unittest.TestCase):
    def test_in_their_order(self):
        for numbers in [(2, 1, 2, 1, 5), (3, 1, 2, 2, 5), (4, 1, 6, 3, 13)]:
            array, own = Array(*numbers), OwnBlocks(*numbers)
            good = own.good(own.some_records(1))
            few = [row if disk < own.d - 1 else None for disk, row in enumerate(good)]
            torn = written(good, [(0, own.m, 1)])
            short = good[:-1]
            for wish in [None, [(own.m, (0,) * own.d)], [(0, [0] * own.d)], {}]:
                self.check_given(InvalidBlocks, short, change_groups, array, short, wish)
                for blocks in (good, few, torn):
                    self.check_given(InvalidWish, wish, change_groups, array, blocks, wish)
            for wish in [[], [(0, (1,) * own.d)]]:
                self.check_given(InvalidBlocks, short, change_groups, array, short, wish)
                self.check_count(TooFew, own.d - 1, change_groups, array, few, wish)
                self.assertIs(type(caught(change_groups, array, torn, wish)), NotOpen)
                self.assertIsNone(caught(change_groups, array, good, wish))
            self.check_given(InvalidBlocks, short, finish_groups, array, short)
            self.check_count(TooFew, own.d - 1, finish_groups, array, few)
            if own.d > 1:
                self.check_count(TooFew, own.d - 1, change_groups, array, written(few, [(0, own.m, 1)]), [])

    def test_wrong_blocks(self):
        array = Array(3, 1, 2, 1, 5)
        for blocks in [*no_lists(), [], [None] * 2, [None] * 4, [[0] * 4, None, [0] * 3], [[0] * 4, [5] * 4, [0] * 4],
                       [[0] * 4, [0, 0, True, 0], [0] * 4]]:
            self.check_given(InvalidBlocks, blocks, change_groups, array, blocks, [])
            self.check_given(InvalidBlocks, blocks, finish_groups, array, blocks)

    def test_a_head_that_is_not_0(self):
        for numbers in SOME:
            array, own = Array(*numbers), OwnBlocks(*numbers)
            for head, content in itertools.product(range(own.H), sorted({1, own.q - 1})):
                disk, place = head % own.n, own.places[head % own.n][("head", head)]
                blocks = written(own.good(own.some_records(1), 1), [(disk, place, content)])
                for wish in [[], [(0, (0,) * own.d)]]:
                    self.assertIs(type(caught(change_groups, array, blocks, wish)), NotOpen)
                if own.f:
                    blocks[disk][-1] = None
                    self.assertEqual(change_groups(array, blocks, []), [])
                    self.check_same(own.change(blocks, [(0, (0,) * own.d)]), change_groups(array, blocks, [(0, (0,) * own.d)]))

    def test_new_blocks_of_any_contents_are_nothing_to_finish(self):
        chance = random.Random(5)
        for numbers in SOME:
            array, own = Array(*numbers), OwnBlocks(*numbers)
            blocks = any_blocks(own, chance, range(own.n), [0] * own.H)
            self.assertEqual(finish_groups(array, blocks), [])
            self.assertIsNone(caught(change_groups, array, blocks, [(0, (0,) * own.d)]))


class Cuts(Checks, unittest.TestCase):
    """[94] by going through what cuts leave."""

    def frozen(self, blocks):
        return tuple(None if row is None else tuple(row) for row in blocks)

    def left_by(self, own, blocks, groups):
        """All that a cut at any moment of these groups leaves, without losses and with all that may be."""
        found = {}
        settled = blocks
        for group in groups:
            for contents in itertools.product(range(own.q), repeat=len(group)):
                left = written(settled, [(disk, block, content) for (disk, block, _), content in zip(group, contents)])
                found[self.frozen(left)] = True
            settled = written(settled, group)
        found[self.frozen(settled)] = True
        return {left: True for whole in found for left in self.with_losses(own, whole)}

    def with_losses(self, own, blocks):
        ins = own.inside(blocks)
        for lost in subsets(ins, len(ins) - own.d):
            yield tuple(None if disk in lost else row for disk, row in enumerate(blocks))

    def check_opened(self, array, own, blocks, groups):
        """Behind all groups the blocks are good, and tell what they told, whatever is lost."""
        told = read(array, blocks)
        behind = blocks
        for group in groups:
            behind = written(behind, group)
        self.assertTrue(own.is_good(behind))
        for left in self.with_losses(own, behind):
            self.assertEqual(read(array, left), told)

    def check_all_cuts(self, array, own, blocks, wish):
        """Goes through all that cuts of the change leave, and through all that cuts of openings of these leave."""
        old = own.read(blocks)
        both = [old, own.granted(old, wish)]
        waiting = list(self.left_by(own, blocks, change_groups(array, blocks, wish)))
        reached = {left: True for left in waiting}
        told = {}
        while waiting:
            left = waiting.pop()
            self.assertIn(read(array, left), both)
            told[both.index(read(array, left))] = True
            groups = finish_groups(array, left)
            self.check_opened(array, own, left, groups)
            for further in self.left_by(own, left, groups):
                if further not in reached:
                    reached[further] = True
                    waiting.append(further)
        self.assertEqual(sorted(told), [0, 1] if both[0] != both[1] else [0])

    def test_all_cuts_of_small_arrays(self):
        for numbers in CUT:
            array, own = Array(*numbers), OwnBlocks(*numbers)
            records = own.some_records(1)
            wish = [(record, tuple((item + 1 + spot) % own.q for spot, item in enumerate(records[record])))
                    for record in range(own.m - own.k, own.m)]
            self.check_all_cuts(array, own, own.good(records, 1), wish)
            if own.n < 3:
                self.check_all_cuts(array, own, own.good(records, 0), wish[:1])

    def test_all_cuts_with_a_disk_lost_ahead(self):
        for numbers in [(2, 1, 2, 1, 3), (3, 2, 1, 1, 3), (3, 2, 2, 1, 3)]:
            array, own = Array(*numbers), OwnBlocks(*numbers)
            for lost in subsets(range(own.n), own.f):
                blocks = own.good(own.some_records(1), 1, lost)
                self.check_all_cuts(array, own, blocks, [(0, (2,) * own.d)])

    def test_a_wish_that_changes_nothing(self):
        for numbers in [(1, 0, 2, 1, 3), (2, 1, 2, 1, 3)]:
            array, own = Array(*numbers), OwnBlocks(*numbers)
            records = own.some_records(1)
            self.check_all_cuts(array, own, own.good(records, 2), [(1, records[1])])

    def drawn_left(self, own, chance, blocks, groups):
        """Blocks that a cut leaves at a moment that is drawn."""
        at = chance.randrange(len(groups) + 1)
        left = blocks
        for group in groups[:at]:
            left = written(left, group)
        if at < len(groups):
            way = chance.choice(["any", "some"])
            for disk, block, content in groups[at]:
                kept = left[disk][block]
                drawn = chance.randrange(own.q) if way == "any" else chance.choice([kept, content])
                left = written(left, [(disk, block, drawn)])
        ins = own.inside(left)
        lost = chance.sample(ins, chance.randint(0, len(ins) - own.d))
        return [None if disk in lost else row for disk, row in enumerate(left)]

    def test_drawn_cuts_of_greater_arrays(self):
        chance = random.Random(94)
        for numbers in DRAWN:
            array, own = Array(*numbers), OwnBlocks(*numbers)
            for _ in range(60):
                records = own.some_records(chance.randrange(99))
                blocks = own.good(records, chance.randrange(5))
                wish = list(some_wishes(own, chance, 1))[chance.randint(1, own.k)]
                both = [records, own.granted(records, wish)]
                left = self.drawn_left(own, chance, blocks, change_groups(array, blocks, wish))
                for _ in range(4):
                    self.assertIn(read(array, left), both)
                    groups = finish_groups(array, left)
                    self.check_opened(array, own, left, groups)
                    left = self.drawn_left(own, chance, left, groups)

    def test_behind_a_whole_change_the_wish_is_granted(self):
        chance = random.Random(3)
        for numbers in SOME:
            array, own = Array(*numbers), OwnBlocks(*numbers)
            for wish in some_wishes(own, chance, 3):
                blocks = own.good(own.some_records(2), 3)
                for group in change_groups(array, blocks, wish):
                    blocks = written(blocks, group)
                self.assertTrue(own.is_good(blocks))
                self.assertEqual(read(array, blocks), own.granted(own.some_records(2), wish))


if __name__ == "__main__":
    unittest.main()
