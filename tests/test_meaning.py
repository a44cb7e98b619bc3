"""[81], [82], [83], [84]: what blocks mean, held against the tests' own reading."""

import itertools
import random
import unittest

from checks import Checks, Plain, Touchy, no_integers, no_lists, no_tuples
from reckoning import OwnBlocks, fits_a_word
from sparesum.arrays import Array
from sparesum.errors import InvalidBlock, InvalidBlocks, InvalidTold, TooFew
from sparesum.meaning import inside, is_blocks, read, row_of, row_word, view_of

TINY = [(1, 0, 1, 1, 2), (1, 0, 2, 1, 3), (2, 1, 1, 1, 2)]
SOME = TINY + [(2, 1, 2, 1, 5), (3, 1, 2, 1, 5), (3, 1, 2, 2, 5), (3, 2, 4, 2, 7), (4, 1, 3, 2, 7), (4, 1, 6, 3, 13), (2, 0, 6, 2, 7),
               (4, 0, 7, 3, 7), (3, 1, 8, 4, 13), (12, 6, 5, 2, 13)]
GREAT = [(12, 5, 24, 12, 97), (8, 2, 18, 3, 821), (12, 11, 24, 24, 13)]


def some_blocks(own, chance, ins, heads="any"):
    """Blocks of any contents with these disks in; of each other one all blocks, some or none lack, or it is lost."""
    blocks = []
    for disk, size in enumerate(own.sizes()):
        row = [chance.randrange(own.q) for _ in range(size)]
        for head in own.heads_on(disk):
            if heads != "any":
                row[own.places[disk][("head", head)]] = heads[head]
        if disk not in ins:
            way = chance.choice(["lost", "one", "some", "all"])
            lacking = {"lost": 0, "one": 1, "some": chance.randint(1, size), "all": size}[way]
            for at in chance.sample(range(size), lacking):
                row[at] = None
            row = None if way == "lost" else row
        blocks.append(row)
    return blocks


def near_blocks(own):
    """Values that are no blocks of the array, by one change to such."""
    sizes = own.sizes()
    right = [[0] * size for size in sizes]
    yield from [right[:-1], right + [[0] * sizes[0]], right + [None], [], [right], (None,) * (own.n + 1)]
    for disk, size in enumerate(sizes):
        wrong = [row for row in no_lists() if row is not None]
        wrong += [[], [0] * (size - 1), [0] * (size + 1), [[0] * size], {0: 0}, "0" * size, [None] * (size + 1), [None] * (size - 1)]
        wrong += [[0] * at + [item] + [0] * (size - at - 1) for at in sorted({0, own.m, size - 1})
                  for item in [-1, own.q, own.q + 1, 10 ** 59, *[item for item in no_integers() if item is not None]]]
        for row in wrong:
            yield right[:disk] + [row] + right[disk + 1:]
    yield [row if disk % 2 else row + [0] for disk, row in enumerate(right)]


class Blocks(Checks, unittest.TestCase):
    def test_examples(self):
        array = Array(3, 1, 2, 1, 5)
        self.assertEqual([row_word(array, (1, 3)), row_word(array, (2, 0))], [(1, 4, 2), (2, 2, 2)])
        blocks = [[1, 2, 2, 0], None, [2, 2, 2, 4]]
        self.assertEqual([inside(array, blocks), view_of(array, blocks), row_of(array, blocks, ("home", 0))],
                         [[0, 2], [(0, 2), (2, 2)], [(0, 1), (2, 2)]])
        self.assertEqual(read(array, blocks), [(1, 3), (0, 2)])
        self.assertEqual(read(array, [[1, 2, 0, 0], None, [2, 2, 2, 4]]), [(1, 3), (2, 0)])
        self.check_count(TooFew, 1, read, array, [[1, 2, None, 0], None, [2, 2, 2, 4]])

    def test_all_blocks_of_tiny_arrays(self):
        for numbers in TINY:
            array, own = Array(*numbers), OwnBlocks(*numbers)
            rows = [[None, *map(list, itertools.product([None, *range(own.q)], repeat=size))] for size in own.sizes()]
            for blocks in itertools.product(*rows):
                self.assertIs(is_blocks(array, list(blocks)), True)
                self.check_told(array, own, list(blocks))

    def check_told(self, array, own, blocks):
        """All that is told of these blocks is what the own reading tells."""
        ins = own.inside(blocks)
        self.check_same(ins, inside(array, blocks))
        self.check_same(own.view(blocks), view_of(array, blocks))
        for record in range(own.m):
            self.check_same(own.row(blocks, ("home", record)), row_of(array, blocks, ("home", record)))
        for index in range(own.k):
            self.check_same(own.row(blocks, ("new", index)), row_of(array, blocks, ("new", index)))
        if len(ins) < own.d:
            self.check_count(TooFew, len(ins), read, array, blocks)
        else:
            self.check_same(own.read(blocks), read(array, blocks))

    def test_any_blocks(self):
        chance = random.Random(81)
        for numbers in SOME:
            array, own = Array(*numbers), OwnBlocks(*numbers)
            for count in range(own.n + 1):
                for _ in range(12):
                    blocks = some_blocks(own, chance, chance.sample(range(own.n), count))
                    self.assertIs(is_blocks(array, blocks), True)
                    self.check_told(array, own, blocks)
                    self.check_told(array, own, [None if row is None else tuple(row) for row in blocks])

    def test_great_arrays(self):
        chance = random.Random(83)
        for numbers in GREAT[1:]:
            array, own = Array(*numbers), OwnBlocks(*numbers)
            for heads in ["any", [0] * own.H, own.word_of_number(0), own.word_of_number(own.lots - 1)]:
                for count in [own.n, own.d, own.d - 1]:
                    self.check_told(array, own, some_blocks(own, chance, chance.sample(range(own.n), count), heads))

    def test_millions_of_lots(self):
        array, own = Array(*GREAT[0]), OwnBlocks(*GREAT[0])
        chance = random.Random(84)
        last = list(range(12, 24))
        blocks = some_blocks(own, chance, range(own.n), own.word_of_number(own.lots - 1))
        found = read(array, blocks)
        for record in range(own.m):
            row = own.row(blocks, ("new", last.index(record)) if record in last else ("home", record))
            self.assertEqual([own.row_word(found[record])[disk] for disk in range(own.d)], [item for _, item in row[:own.d]])

    def test_values_near_blocks(self):
        for numbers in SOME[:9] + GREAT[1:]:
            array, own = Array(*numbers), OwnBlocks(*numbers)
            for value in itertools.chain(near_blocks(own), no_lists()):
                self.assertIs(is_blocks(array, value), False)
                if isinstance(value, list):
                    self.assertIs(is_blocks(array, tuple(value)), False)
                self.check_given(InvalidBlocks, value, inside, array, value)
                self.check_given(InvalidBlocks, value, view_of, array, value)
                self.check_given(InvalidBlocks, value, row_of, array, value, ("home", 0))
                self.check_given(InvalidBlocks, value, row_of, array, value, None)
                self.check_given(InvalidBlocks, value, read, array, value)

    def test_lists_and_tuples_with_none(self):
        array = Array(4, 1, 3, 2, 7)
        for value in [[None] * 4, (None,) * 4, [None, [None] * 6, (None,) * 6, [None] * 5], [(6,) * 6, None, [0] * 6, None]]:
            self.assertIs(is_blocks(array, value), True)
        # Disk 3 has no head.
        for value in [[[0] * 6] * 4, [[0] * 5] * 4, [[0] * 5] + [[0] * 6] * 3, {0: None, 1: None, 2: None, 3: None}, "0000"]:
            self.assertIs(is_blocks(array, value), False)

    def test_results_are_new_lists(self):
        array = Array(3, 1, 2, 1, 5)
        blocks = [[1, 2, 2, 0], None, [2, 2, 2, 4]]
        for function, values in [(inside, []), (view_of, []), (row_of, [("home", 0)]), (read, [])]:
            self.check_new_lists(function, array, blocks, *values).append(7)
            self.assertNotIn(7, function(array, blocks, *values))


class Rows(Checks, unittest.TestCase):
    def test_values_near_blocks_of_rows(self):
        for numbers in SOME:
            array, own = Array(*numbers), OwnBlocks(*numbers)
            blocks = [[0] * size for size in own.sizes()]
            wrong = [*no_tuples(), (), ("home",), ("new",), ("home", 0, 0), ["home", 0], ("Home", 0), ("head", 0), ("", 0),
                     (0, "home"), ("home", -1), ("home", own.m), ("home", own.m + 1), ("new", -1), ("new", own.k),
                     ("new", own.k + 1), ("home", 10 ** 59), ("new", 10 ** 59), (("home", 0),), ("homes", 0), (Touchy(), 0),
                     (Plain(), 0), (None, 0), (0, 0), (True, 0), (("home",), 0), (["home"], 0),
                     *[(kind, item) for kind in ("home", "new") for item in no_integers()]]
            for value in wrong:
                self.check_given(InvalidBlock, value, row_of, array, blocks, value)
                self.check_given(InvalidBlock, value, row_of, array, [None] * own.n, value)
            self.assertEqual(len(row_of(array, blocks, ("home", own.m - 1))), own.n)
            self.assertEqual(len(row_of(array, blocks, ("new", own.k - 1))), own.n)

    def test_few_disks_in(self):
        for numbers in SOME:
            array, own = Array(*numbers), OwnBlocks(*numbers)
            blocks = [None] * own.n
            self.assertEqual([inside(array, blocks), view_of(array, blocks), row_of(array, blocks, ("new", 0))], [[], [], []])
            self.check_count(TooFew, 0, read, array, blocks)

    def test_nothing_is_read_of_a_disk_that_is_not_in(self):
        for numbers in SOME[2:]:
            array, own = Array(*numbers), OwnBlocks(*numbers)
            if own.f == 0:
                continue
            chance = random.Random(7)
            blocks = some_blocks(own, chance, range(own.n))
            for disk, lacking in itertools.product(range(own.n), [0, -1, own.m]):
                one = [list(row) for row in blocks]
                one[disk][lacking] = None
                other = [list(row) for row in blocks]
                other[disk] = None
                for function, values in [(inside, []), (view_of, []), (row_of, [("home", own.m - 1)]),
                                         (row_of, [("new", own.k - 1)]), (read, [])]:
                    self.assertEqual(function(array, one, *values), function(array, other, *values))


class Reading(Checks, unittest.TestCase):
    def blocks_of(self, own, homes, news, heads):
        """Blocks with these words for home rows and new rows, and these contents of all heads."""
        return [[row[disk] for row in homes] + [heads[head] for head in own.heads_on(disk)] + [row[disk] for row in news]
                for disk in range(own.n)]

    def test_home_rows_and_new_rows(self):
        for numbers in SOME:
            array, own = Array(*numbers), OwnBlocks(*numbers)
            homes, news = own.some_records(1), own.some_records(5)[:own.k]
            words = [[own.row_word(contents) for contents in rows] for rows in (homes, news)]
            self.assertEqual(read(array, self.blocks_of(own, *words, [0] * own.H)), homes)
            for number in sorted({0, own.lots // 2, own.lots - 1}):
                lot, heads = own.all_lots()[number], own.word_of_number(number)
                wanted = [news[lot.index(record)] if record in lot else homes[record] for record in range(own.m)]
                blocks = self.blocks_of(own, *words, heads)
                self.check_same(wanted, read(array, blocks))
                for lost in itertools.islice(itertools.combinations(range(own.n), own.f), 40):
                    left = [None if disk in lost else row for disk, row in enumerate(blocks)]
                    self.check_same(wanted, read(array, left))
                # A 0 behind the first heads changes nothing, one among them tells none.
                torn = [*heads[:own.j + 1], *[0] * (own.H - own.j - 1)]
                self.check_same(wanted, read(array, self.blocks_of(own, *words, torn)))
                torn = [*heads[:own.j], *[0] * (own.H - own.j)]
                self.check_same(homes, read(array, self.blocks_of(own, *words, torn)))

    def test_heads_that_fit_no_word(self):
        array, own = Array(4, 1, 6, 3, 13), OwnBlocks(4, 1, 6, 3, 13)
        homes, news = own.some_records(2), own.some_records(3)[:own.k]
        words = [[own.row_word(contents) for contents in rows] for rows in (homes, news)]
        for heads in itertools.product([0, 1, 5, 12], repeat=own.H):
            blocks = self.blocks_of(own, *words, heads)
            number = own.told_number(list(enumerate(heads)))
            lot = [] if number is None else own.all_lots()[number]
            wanted = [news[lot.index(record)] if record in lot else homes[record] for record in range(own.m)]
            self.check_same(wanted, read(array, blocks))

    def test_rows_that_fit_no_word(self):
        # The first disks tell the record, whatever the further ones have.
        array, own = Array(4, 2, 3, 1, 7), OwnBlocks(4, 2, 3, 1, 7)
        for kind, heads in [("home", [0] * own.H), ("new", own.word_of_number(1))]:
            for torn in itertools.product(range(7), repeat=2):
                blocks = own.good(own.some_records(4), 2)
                for head, content in enumerate(heads):
                    blocks[head % 4][own.places[head % 4][("head", head)]] = content
                for disk, content in zip([2, 3], torn):
                    blocks[disk][own.places[disk][(kind, 0 if kind == "new" else 1)]] = content
                wanted = own.read([*blocks[:2], None, None])
                self.check_same(wanted, read(array, blocks))
                self.assertEqual([row_word(array, wanted[1])[disk] for disk in (0, 1)],
                                 [blocks[disk][own.places[disk][(kind, 0 if kind == "new" else 1)]] for disk in (0, 1)])
                # Without disk 0, the row is told by the next two disks.
                self.check_same(own.read([None, *blocks[1:]]), read(array, [None, *blocks[1:]]))

    def test_just_enough_disks_and_one_fewer(self):
        for numbers in SOME:
            array, own = Array(*numbers), OwnBlocks(*numbers)
            records = own.some_records(3)
            blocks = own.good(records, 1)
            for count in range(own.n + 1):
                for some in itertools.islice(itertools.combinations(range(own.n), count), 30):
                    left = [row if disk in some else None for disk, row in enumerate(blocks)]
                    lacking = [row if disk in some else [*row[:-1], None] for disk, row in enumerate(blocks)]
                    for value in (left, lacking):
                        if count < own.d:
                            self.check_count(TooFew, count, read, array, value)
                        else:
                            self.check_same(records, read(array, value))


class RowWords(Checks, unittest.TestCase):
    def test_all_contents_of_small_arrays(self):
        for numbers in [*TINY, (3, 1, 2, 1, 5), (4, 1, 3, 2, 7), (3, 2, 4, 2, 7), (2, 0, 6, 2, 7)]:
            array, own = Array(*numbers), OwnBlocks(*numbers)
            for contents in itertools.product(range(own.q), repeat=own.d):
                found = row_word(array, contents)
                self.check_same(own.row_word(contents), found)
                self.assertTrue(fits_a_word(own.q, list(enumerate(found)), own.d))

    def test_any_need_places_tell_the_contents(self):
        for numbers in SOME + GREAT:
            array, own = Array(*numbers), OwnBlocks(*numbers)
            records = own.some_records(6)
            found = [row_word(array, contents) for contents in records]
            for some in itertools.islice(itertools.combinations(range(own.n), own.d), 0, 100, 9):
                blocks = [[row[disk] for row in found] + [0] * (size - own.m) if disk in some else None
                          for disk, size in enumerate(own.sizes())]
                self.check_same(records, read(array, blocks))

    def test_wrong_contents(self):
        for numbers in SOME:
            array, own = Array(*numbers), OwnBlocks(*numbers)
            right = (0,) * own.d
            wrong = [*no_tuples(), list(right), right + (0,), right[1:], (right,), "0" * own.d]
            for at in range(own.d):
                wrong.extend(right[:at] + (item,) + right[at + 1:] for item in [-1, own.q, own.q + 1, 10 ** 59, *no_integers()])
            for contents in wrong:
                self.check_given(InvalidTold, contents, row_word, array, contents)


if __name__ == "__main__":
    unittest.main()
