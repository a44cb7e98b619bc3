"""[41], [42], [43]: arrays, held against sizes that the tests reckon themselves."""

import itertools
import unittest

from checks import Checks, Plain, caught, no_integers
from reckoning import PRIMES, Own
from sparesum.arrays import (Array, all_blocks, blocks_on, head_block, head_code, heads_on, home_block, new_block,
                             row_code)
from sparesum.codes import Code
from sparesum.errors import (InvalidChanges, InvalidContents, InvalidDisk, InvalidDisks, InvalidHeads, InvalidLost,
                             InvalidRecords, NoHeads)

SOME = [(1, 0, 1, 1, 2), (1, 0, 2, 1, 3), (2, 1, 1, 1, 2), (2, 1, 3, 1, 5), (3, 1, 2, 2, 5), (3, 2, 4, 2, 7), (4, 1, 3, 2, 7),
        (4, 1, 6, 3, 13), (4, 3, 6, 3, 17), (5, 0, 9, 1, 5), (5, 2, 7, 3, 11), (7, 2, 10, 5, 17), (11, 8, 6, 3, 13),
        (12, 0, 24, 1, 13), (12, 11, 24, 24, 13), (12, 11, 24, 12, 997), (12, 5, 24, 12, 97), (12, 2, 24, 6, 13),
        (8, 2, 18, 3, 821), (1, 0, 24, 12, 997), (12, 0, 1, 1, 997), (12, 6, 5, 1, 997)]


class Sizes(Checks, unittest.TestCase):
    def check_sizes(self, *numbers):
        """The array has the sizes of the own reckoning, or there are no heads; tells how many symbols there are."""
        own = Own(*numbers)
        error = caught(Array, *numbers)
        if own.j is None:
            self.assertIs(type(error), NoHeads, numbers)
            self.assertIs(type(error.lots), int)
            self.assertEqual(error.lots, own.lots, numbers)
            return None
        self.assertIsNone(error, numbers)
        array = Array(*numbers)
        found = [array.disks, array.lost, array.records, array.changes, array.contents, array.need, array.lots,
                 array.symbols, array.prime, array.heads]
        wanted = [*numbers, own.d, own.lots, own.j, own.p, own.H]
        self.assertEqual(found, wanted)
        self.assertEqual([type(item) for item in found], [type(item) for item in wanted])
        self.assertEqual(len(vars(array)), 10)
        return array.symbols

    def test_examples(self):
        array = Array(4, 1, 3, 2, 7)
        self.assertEqual([array.need, array.lots, array.symbols, array.prime, array.heads, all_blocks(array)],
                         [3, 3, 1, None, 3, 23])
        self.assertEqual([heads_on(array, 2), heads_on(array, 3), blocks_on(array, 2), blocks_on(array, 3)],
                         [[2], [], 6, 5])
        found = [home_block(array, 2, 1), head_block(array, 2), new_block(array, 2, 0), new_block(array, 3, 1)]
        self.assertEqual(found, [1, 3, 4, 4])
        self.assertEqual([Array(3, 1, 2, 2, 5).heads, Array(2, 1, 3, 1, 5).heads, heads_on(Array(2, 1, 3, 1, 5), 1)],
                         [2, 4, [1, 3]])
        array = Array(4, 1, 6, 3, 13)
        self.assertEqual([array.symbols, array.prime, array.heads, head_code(Array(4, 1, 3, 2, 7))], [2, 11, 4, None])
        self.assertEqual(caught(Array, 3, 1, 4, 2, 3).lots, 6)

    def test_all_small_ones(self):
        found = []
        for n, m in itertools.product(range(1, 6), range(1, 8)):
            for f, k in itertools.product(range(n), range(1, m + 1)):
                for q in [q for q in PRIMES[:9] if q >= n]:
                    found.append(self.check_sizes(n, f, m, k, q))
        self.assertEqual(sorted({-1 if symbols is None else symbols for symbols in found}), [-1, 0, 1, 2, 3])

    def test_all_disks_and_all_records(self):
        for n in range(1, 13):
            for f in range(n):
                for m, k, q in [(1, 1, 13), (24, 24, 13), (24, 1, 13), (24, 12, 13), (24, 12, 17), (24, 12, 997),
                                (24, 3, 31), (24, 12, 41), (12, 6, 997), (12, 6, 907), (10, 2, 47), (6, 3, 23)]:
                    self.check_sizes(n, f, m, k, q)
        for m in range(1, 25):
            for k in range(1, m + 1):
                for n, f, q in [(1, 0, 2), (1, 0, 3), (2, 1, 5), (12, 4, 13), (12, 11, 37), (6, 2, 997), (12, 11, 997)]:
                    self.check_sizes(n, f, m, k, q)

    def test_all_contents(self):
        for q in PRIMES:
            for n, f, m, k in [(1, 0, 1, 1), (1, 0, 24, 1), (1, 0, 24, 12), (2, 1, 11, 5), (2, 0, 6, 3), (3, 1, 12, 6)]:
                if q >= n:
                    self.check_sizes(n, f, m, k, q)

    def test_all_records_changed_at_once(self):
        for n, f, m, q in [(1, 0, 1, 2), (1, 0, 24, 2), (3, 2, 5, 3), (12, 11, 24, 13), (12, 11, 24, 997)]:
            self.assertEqual(self.check_sizes(n, f, m, m, q), 0)
            self.assertEqual(Array(n, f, m, m, q).heads, 1 + f)
            self.assertIsNone(Array(n, f, m, m, q).prime)

    def test_as_many_lots_as_contents(self):
        for q in [2, 3, 5, 7, 11, 13, 17, 19, 23]:
            for k in (1, q - 1):
                if q > 2:
                    self.assertEqual(self.check_sizes(1, 0, q - 1, min(k, q - 2), q), 1)
                wanted = None if q in (2, 3) else 2
                self.assertEqual(self.check_sizes(1, 0, q, k, q), wanted)
                self.assertEqual(self.check_sizes(1, 0, q + 1, k if k == 1 else q, q), wanted)
        # C(14, 4) is 1001; below the contents 997 are C(13, 4) = 715 and C(12, 6) = 924.
        self.assertEqual(self.check_sizes(2, 1, 14, 4, 997), 2)
        self.assertEqual(self.check_sizes(2, 1, 12, 6, 997), 1)
        self.assertEqual(self.check_sizes(2, 1, 12, 6, 929), 1)
        self.assertEqual(self.check_sizes(2, 1, 12, 6, 919), 2)

    def test_as_many_lots_as_a_power_of_the_prime_below(self):
        for k in (1, 8):
            self.assertEqual(self.check_sizes(1, 0, 9, k, 5), 2)
        for k in (1, 9):
            self.assertIsNone(self.check_sizes(1, 0, 10, k, 5))
        self.assertIsNone(self.check_sizes(1, 0, 4, 1, 3))
        # C(16, 2) is 120 and 11 ** 2 is 121; C(16, 4) is 1820 and C(17, 4) 2380, with 13 ** 3 = 2197 between.
        self.assertEqual(self.check_sizes(1, 0, 16, 2, 13), 2)
        self.assertEqual(self.check_sizes(1, 0, 17, 2, 13), 3)
        self.assertEqual(self.check_sizes(1, 0, 16, 4, 17), 3)
        self.assertEqual(self.check_sizes(1, 0, 17, 4, 17), 4)

    def test_as_many_heads_as_the_prime_below(self):
        for n, f, m, k, q, fits in [(11, 8, 14, 3, 13, False), (11, 8, 6, 3, 13, True), (12, 9, 6, 3, 13, False),
                                    (1, 0, 5, 1, 5, True), (2, 1, 5, 1, 5, False), (5, 2, 8, 1, 7, True),
                                    (6, 3, 8, 1, 7, False), (7, 4, 8, 1, 7, False)]:
            own = Own(n, f, m, k, q)
            self.assertEqual(self.check_sizes(n, f, m, k, q), 2 if fits else None)
            if fits:
                self.assertEqual(own.H, own.p)

    def test_every_number_of_heads_beside_the_prime(self):
        equal, above = 0, 0
        for n in range(1, 13):
            for f, q in itertools.product(range(n), [5, 7, 11, 13, 17, 23]):
                for m, k in [(7, 1), (8, 2), (9, 1), (13, 1), (24, 1), (12, 3)]:
                    own = Own(n, f, m, k, q)
                    if q < n or own.lots < q:
                        continue
                    prime = max(number for number in PRIMES if number < q)
                    least = next(j for j in range(2, 30) if prime ** j >= own.lots)
                    equal += own.heads_for(least) == prime
                    above += own.heads_for(least) == prime + 1
                    self.assertEqual(self.check_sizes(n, f, m, k, q), least if own.heads_for(least) <= prime else None)
        self.assertGreater(equal, 5)
        self.assertGreater(above, 5)

    def test_no_prime_below_the_contents(self):
        for n, f, m, k, lots in [(1, 0, 2, 1, 2), (2, 0, 3, 2, 3), (2, 1, 24, 12, 2704156), (1, 0, 24, 23, 24)]:
            error = caught(Array, n, f, m, k, 2)
            self.assertIs(type(error), NoHeads)
            self.assertEqual(error.lots, lots)
        self.assertEqual(Array(2, 1, 24, 24, 2).symbols, 0)


class WrongSizes(Checks, unittest.TestCase):
    ERRORS = [InvalidDisks, InvalidLost, InvalidRecords, InvalidChanges, InvalidContents]

    def check_first(self, at, given, *numbers):
        self.check_given(self.ERRORS[at], given, Array, *numbers)

    def test_just_out_of_range(self):
        for disks in [0, -1, 13, 14, 10 ** 59, -10 ** 59]:
            self.check_first(0, disks, disks, 0, 3, 2, 13)
        for n in [1, 5, 12]:
            for lost in [-1, n, n + 1, 10 ** 59]:
                self.check_first(1, lost, n, lost, 3, 2, 13)
            self.assertEqual(Array(n, n - 1, 3, 2, 13).need, 1)
            self.assertEqual(Array(n, 0, 3, 2, 13).need, n)
        for records in [0, -1, 25, 26, 10 ** 59]:
            self.check_first(2, records, 4, 1, records, 1, 13)
        for m in [1, 4, 24]:
            for changes in [0, -1, m + 1, m + 2, 10 ** 59]:
                self.check_first(3, changes, 4, 1, m, changes, 997)
        for n in range(1, 13):
            for contents in [*range(-2, n), 997 + 1, 1009, 10 ** 59]:
                self.check_first(4, contents, n, 0, 3, 3, contents)

    def test_contents_that_are_no_primes(self):
        for contents in range(-3, 1100):
            if contents in PRIMES:
                self.assertEqual(Array(1, 0, 1, 1, contents).contents, contents)
            else:
                self.check_first(4, contents, 1, 0, 1, 1, contents)

    def test_no_integers(self):
        right = [4, 1, 6, 3, 13]
        for at in range(5):
            for value in no_integers():
                self.check_first(at, value, *right[:at], value, *right[at + 1:])

    def test_true_and_false(self):
        for at, right in enumerate([[1, 0, 1, 1, 2]] * 5):
            for value in (True, False):
                self.check_first(at, value, *right[:at], value, *right[at + 1:])

    def test_several_wrong_ones_at_once(self):
        for wrong in [[0, -1, 0, 0, 1], [None] * 5, [True] * 5, ["4", "1", "6", "3", "13"], [13, 13, 25, 25, 998],
                      [[4], [1], [6], [3], [13]]]:
            for some in itertools.product((False, True), repeat=5):
                if any(some):
                    numbers = [bad if is_bad else good for bad, good, is_bad in zip(wrong, [4, 1, 6, 3, 13], some)]
                    at = some.index(True)
                    self.check_first(at, numbers[at], *numbers)

    def test_wrong_contents_come_ahead_of_no_heads(self):
        self.check_first(4, 2, 3, 1, 4, 2, 2)
        self.check_first(4, 9, 3, 1, 24, 12, 9)


class Equality(unittest.TestCase):
    def test_equal_arrays(self):
        arrays = [Array(*numbers) for numbers in SOME]
        for one, other in itertools.product(range(len(SOME)), repeat=2):
            again = Array(*SOME[other])
            self.assertIs(arrays[one] == again, one == other)
            self.assertIs(arrays[one] != again, one != other)

    def test_arrays_that_differ_in_one_number(self):
        array = Array(4, 1, 6, 3, 13)
        for other in [(5, 1, 6, 3, 13), (4, 2, 6, 3, 13), (4, 1, 7, 3, 13), (4, 1, 6, 2, 13), (4, 1, 6, 3, 17)]:
            self.assertIs(array == Array(*other), False)
            self.assertIs(Array(*other) == array, False)
            self.assertIs(array != Array(*other), True)

    def test_arrays_beside_other_objects(self):
        class Twin:
            disks, lost, records, changes, contents = 4, 1, 6, 3, 13

        array = Array(4, 1, 6, 3, 13)
        for other in [None, True, 4, "", (4, 1, 6, 3, 13), [4, 1, 6, 3, 13], {"disks": 4}, Plain(), Twin(), Array,
                      row_code(array), head_code(array)]:
            self.assertIs(array == other, False)
            self.assertIs(other == array, False)
            self.assertIs(array != other, True)


class Blocks(Checks, unittest.TestCase):
    def test_heads_on_each_disk(self):
        for numbers in SOME:
            array, own = Array(*numbers), Own(*numbers)
            for disk in range(own.n):
                found = heads_on(array, disk)
                self.check_same(own.heads_on(disk), found)
                found.append(0)
                self.check_same(own.heads_on(disk), heads_on(array, disk))

    def test_each_block_stands_once(self):
        for numbers in SOME:
            array, own = Array(*numbers), Own(*numbers)
            for disk in range(own.n):
                found = ([home_block(array, disk, record) for record in range(own.m)]
                         + [head_block(array, head) for head in heads_on(array, disk)]
                         + [new_block(array, disk, index) for index in range(own.k)])
                self.assertEqual(found, list(range(len(found))))
                self.assertEqual({type(block) for block in found}, {int})
                self.assertEqual(blocks_on(array, disk), len(found))
                self.assertEqual(blocks_on(array, disk), len(own.layout(disk)))
            self.assertEqual(all_blocks(array), sum(len(own.layout(disk)) for disk in range(own.n)))
            self.assertEqual(all_blocks(array), own.n * (own.m + own.k) + own.H)

    def test_any_need_of_the_disks_have_enough_heads(self):
        for numbers in SOME:
            array = Array(*numbers)
            counts = [len(heads_on(array, disk)) for disk in range(array.disks)]
            self.assertEqual(sum(counts), array.heads)
            for some in itertools.combinations(counts, array.need):
                self.assertGreaterEqual(sum(some), array.symbols + 1)

    def test_with_one_head_fewer_some_need_of_the_disks_would_have_too_few(self):
        for numbers in SOME:
            array = Array(*numbers)
            counts = [len([head for head in range(array.heads - 1) if head % array.disks == disk])
                      for disk in range(array.disks)]
            self.assertEqual(sum(sorted(counts)[:array.need]), array.symbols)

    def test_wrong_disks(self):
        for numbers in SOME:
            array = Array(*numbers)
            for disk in [-1, -array.disks, array.disks, array.disks + 1, 12, 10 ** 59, *no_integers()]:
                self.check_given(InvalidDisk, disk, heads_on, array, disk)
                self.check_given(InvalidDisk, disk, blocks_on, array, disk)
                for number in [0, -1, None]:
                    self.check_given(InvalidDisk, disk, home_block, array, disk, number)
                    self.check_given(InvalidDisk, disk, new_block, array, disk, number)

    def test_wrong_records(self):
        for numbers in SOME:
            array = Array(*numbers)
            for record in [-1, -array.records, array.records, array.records + 1, 24, 10 ** 59, *no_integers()]:
                for disk in (0, array.disks - 1):
                    self.check_given(InvalidRecords, record, home_block, array, disk, record)

    def test_wrong_indices(self):
        for numbers in SOME:
            array = Array(*numbers)
            for index in [-1, -array.changes, array.changes, array.changes + 1, 24, 10 ** 59, *no_integers()]:
                for disk in (0, array.disks - 1):
                    self.check_given(InvalidChanges, index, new_block, array, disk, index)

    def test_wrong_heads(self):
        for numbers in SOME:
            array = Array(*numbers)
            for head in [-1, -array.heads, array.heads, array.heads + 1, 10 ** 59, *no_integers()]:
                self.check_given(InvalidHeads, head, head_block, array, head)


class RowsAndHeads(unittest.TestCase):
    def test_codes(self):
        for numbers in SOME:
            array, own = Array(*numbers), Own(*numbers)
            self.assertEqual(row_code(array), Code(own.q, own.n, own.d))
            if own.j < 2:
                self.assertIsNone(head_code(array))
            else:
                self.assertEqual(head_code(array), Code(own.p, own.H, own.j))
        self.assertTrue(any(Own(*numbers).j > 2 for numbers in SOME))

    def test_a_code_as_long_as_the_prime(self):
        self.assertEqual(head_code(Array(11, 8, 6, 3, 13)), Code(11, 11, 2))


if __name__ == "__main__":
    unittest.main()
