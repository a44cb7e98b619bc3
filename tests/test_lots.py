"""[51], [52], [53]: lots, their numbers and their words, held against lists and words of the tests' own."""

import itertools
import unittest

from checks import Checks, Plain, Touchy, caught, no_integers, no_lists
from reckoning import Own, subsets
from sparesum.arrays import Array
from sparesum.errors import InvalidHeads, InvalidLot, InvalidNumber, InvalidRecords, TooFew
from sparesum.lots import head_word, is_lot, lot_at, lot_for, lot_number, lot_of

SMALL = [(1, 0, 1, 1, 2), (1, 0, 2, 1, 3), (2, 1, 1, 1, 2), (2, 1, 3, 1, 5), (3, 1, 2, 2, 5), (3, 2, 4, 2, 7), (4, 1, 3, 2, 7),
         (4, 1, 6, 3, 13), (2, 0, 6, 2, 7), (4, 0, 7, 3, 7), (5, 0, 9, 1, 5), (3, 1, 8, 4, 13), (3, 0, 9, 4, 11),
         (1, 0, 24, 23, 13), (12, 11, 24, 24, 13), (2, 1, 12, 11, 13), (2, 1, 11, 10, 13), (2, 0, 8, 4, 11),
         (2, 1, 6, 2, 11)]

# All of them have C(24, 12) = 2704156 lots, C(24, 11) = 2496144 or C(24, 10) = 1961256.
GREAT = [(1, 0, 24, 12, 997), (12, 5, 24, 12, 97), (6, 2, 24, 12, 41), (3, 1, 24, 11, 157), (4, 2, 24, 10, 29)]


def next_lot(own, lot):
    """The least list of the form of a lot behind this one."""
    for at in reversed(range(own.k)):
        rest = list(range(lot[at] + 1, lot[at] + 1 + own.k - at))
        if rest[-1] < own.m:
            return lot[:at] + rest
    return None


class Arrays(unittest.TestCase):
    def test_those_of_these_tests_have_all_numbers_of_symbols(self):
        self.assertEqual(sorted({Own(*numbers).j for numbers in SMALL}), [0, 1, 2, 3])
        self.assertEqual(sorted({Own(*numbers).j for numbers in GREAT}), [3, 4, 5])


class Lots(Checks, unittest.TestCase):
    def test_examples(self):
        array = Array(4, 1, 6, 3, 13)
        found = [lot_at(array, 2), lot_number(array, [0, 2, 3]), lot_at(array, 14), lot_for(array, [3])]
        self.assertEqual(found, [[0, 1, 4], 4, [1, 3, 5], [0, 1, 3]])

    def test_all_lots_of_small_arrays(self):
        for numbers in SMALL:
            array, own = Array(*numbers), Own(*numbers)
            lots = own.all_lots()
            self.assertEqual(lots, sorted(lots))
            self.assertEqual(len(lots), own.lots)
            for number, lot in enumerate(lots):
                self.check_same(lot, lot_at(array, number))
                self.check_same(number, lot_number(array, lot))
                self.check_same(number, lot_number(array, tuple(lot)))

    def test_millions_of_lots(self):
        for numbers in GREAT:
            array, own = Array(*numbers), Own(*numbers)
            self.check_same(list(range(own.k)), lot_at(array, 0))
            self.check_same(list(range(own.m - own.k, own.m)), lot_at(array, own.lots - 1))
            self.assertIsNone(next_lot(own, lot_at(array, own.lots - 1)))
            spots = [0, 1, 2, own.lots // 3, own.lots // 2 - 1, own.lots // 2, 10 ** 6, own.lots - 3]
            for number in [first + step for first in spots for step in range(2)]:
                lot = lot_at(array, number)
                self.assertIs(is_lot(array, lot), True)
                self.check_same(number, lot_number(array, lot))
                self.check_same(next_lot(own, lot), lot_at(array, number + 1))

    def test_lots_are_new_lists(self):
        array = Array(4, 1, 6, 3, 13)
        for function, value in [(lot_at, 2), (lot_for, [3]), (lot_of, [(1, 5), (3, 11)]), (lot_for, [1, 3, 5])]:
            first = function(array, value)
            kept = list(first)
            first.append(99)
            self.check_same(kept, function(array, value))

    def test_wrong_numbers(self):
        for numbers in SMALL + GREAT:
            array = Array(*numbers)
            for number in [-1, -array.lots, array.lots, array.lots + 1, 10 ** 59, -10 ** 59, *no_integers()]:
                self.check_given(InvalidNumber, number, lot_at, array, number)

    def values(self, own):
        """Values that are lots, or near them."""
        lot = list(range(own.m - own.k, own.m))
        yield from subsets(range(-1, min(own.m, 7) + 1), 4)
        yield from [lot, lot[:-1], lot + [own.m], lot + [own.m - 1], lot[::-1], [lot[0]] * own.k, [own.k]]
        for at in range(own.k):
            for item in [*no_integers(), -1, own.m, own.m + 5, 10 ** 59, -10 ** 59]:
                yield lot[:at] + [item] + lot[at + 1:]
        yield from itertools.permutations(lot[:3])

    def test_is_lot(self):
        for numbers in SMALL:
            array, own = Array(*numbers), Own(*numbers)
            lots = own.all_lots()
            found = 0
            for value in self.values(own):
                is_plain = all(type(item) is int for item in value)
                wanted = is_plain and list(value) in lots
                found += wanted
                for whole in (list(value), tuple(value)):
                    self.assertIs(is_lot(array, whole), wanted, (numbers, whole))
                    if not wanted:
                        self.check_given(InvalidLot, whole, lot_number, array, whole)
                        self.check_given(InvalidLot, whole, head_word, array, whole)
            self.assertGreater(found, 0)

    def test_is_lot_of_values_that_are_no_lists(self):
        for numbers in [(1, 0, 1, 1, 2), (4, 1, 6, 3, 13), (12, 11, 24, 24, 13), (1, 0, 24, 12, 997)]:
            array = Array(*numbers)
            endless = []
            endless.append(endless)
            for value in [*no_lists(), [], (), [[0]], [[]], [()], [endless], endless, {0: 0}, {0}, range(3), "012"]:
                self.assertIs(is_lot(array, value), False)
                self.check_given(InvalidLot, value, lot_number, array, value)
                self.check_given(InvalidLot, value, head_word, array, value)

    def test_true_is_no_record(self):
        array = Array(2, 1, 3, 2, 5)
        self.assertIs(is_lot(array, [0, 1]), True)
        for value in [[0, True], [False, 1], [False, True], [True, 2]]:
            self.assertIs(is_lot(array, value), False)
            self.check_given(InvalidRecords, value, lot_for, array, value)


class LotFor(Checks, unittest.TestCase):
    def test_all_lists_of_small_arrays(self):
        for numbers in SMALL:
            array, own = Array(*numbers), Own(*numbers)
            for records in subsets(range(min(own.m, 9)), min(own.k, 5)):
                having = [lot for lot in own.all_lots() if set(records) <= set(lot)]
                self.check_same(min(having), lot_for(array, records))
                self.check_same(min(having), lot_for(array, tuple(records)))

    def test_as_many_records_as_may_change(self):
        for numbers in SMALL:
            array, own = Array(*numbers), Own(*numbers)
            for lot in own.all_lots()[:50]:
                self.check_same(lot, lot_for(array, lot))
            last = list(range(own.m - own.k, own.m))
            self.check_same(list(range(own.k)), lot_for(array, []))
            self.check_same(list(range(own.k - 1)) + [own.m - 1], lot_for(array, [own.m - 1]))
            self.check_same(last, lot_for(array, last))
            if own.k > 1:
                rest = [record for record in range(own.m) if record not in last[1:]]
                self.check_same(sorted(last[1:] + rest[:1]), lot_for(array, last[1:]))

    def test_with_millions_of_lots(self):
        array = Array(1, 0, 24, 12, 997)
        self.check_same(list(range(12)), lot_for(array, []))
        self.check_same(list(range(11)) + [23], lot_for(array, [23]))
        self.check_same(list(range(12)), lot_for(array, [3, 11]))
        self.check_same([0, 1, 2, 3, 4, 5, 6, 7, 8, 9, 14, 20], lot_for(array, [5, 14, 20]))
        self.check_same(list(range(12, 24)), lot_for(array, list(range(12, 24))))
        self.check_same([0, *range(13, 24)], lot_for(array, list(range(13, 24))))

    def test_wrong_lists(self):
        for numbers in SMALL:
            array, own = Array(*numbers), Own(*numbers)
            wrong = [[-1], [own.m], [10 ** 59], [0, 0], [1, 0], list(range(own.k + 1)), [own.m - 1, own.m],
                     list(range(own.m, -1, -1)), [0] * own.k + [0], *([item] for item in no_integers()),
                     *([0, item] for item in no_integers()), *no_lists(), [()], [[]], {0}]
            for value in wrong:
                self.check_given(InvalidRecords, value, lot_for, array, value)
                if isinstance(value, list):
                    whole = tuple(value)
                    self.check_given(InvalidRecords, whole, lot_for, array, whole)


class Words(Checks, unittest.TestCase):
    def test_examples(self):
        array = Array(4, 1, 6, 3, 13)
        self.assertEqual(head_word(array, [1, 3, 5]), (2, 5, 8, 11))
        self.assertEqual(lot_of(array, [(1, 5), (3, 11)]), [1, 3, 5])
        self.assertEqual(lot_of(array, [(0, 2), (2, 8), (3, 1)]), [1, 3, 5])
        self.assertEqual(head_word(Array(4, 1, 3, 2, 7), [0, 2]), (2, 2, 2))
        self.assertEqual(head_word(Array(3, 1, 2, 2, 5), [0, 1]), (1, 1))
        self.check_count(TooFew, 1, lot_of, array, [(1, 5)])

    def test_all_words_of_small_arrays(self):
        for numbers in SMALL:
            array, own = Array(*numbers), Own(*numbers)
            for number, lot in enumerate(own.all_lots()):
                found = head_word(array, lot)
                self.check_same(own.word_of_number(number), found)
                self.check_same(found, head_word(array, tuple(lot)))
                self.assertEqual(len(found), own.H)
                self.assertTrue(all(1 <= content < own.q for content in found))

    def test_words_of_millions_of_lots(self):
        for numbers in GREAT:
            array, own = Array(*numbers), Own(*numbers)
            for number in [0, 1, 2, own.p - 1, own.p, own.p ** 2, 10 ** 6, own.lots // 2, own.lots - 2, own.lots - 1]:
                lot = lot_at(array, number)
                right = own.word_of_number(number)
                self.check_same(right, head_word(array, lot))
                points = list(enumerate(right))
                for some in [points, points[:own.j], points[-own.j:], points[1:own.j + 1], points[::2][:own.j]]:
                    if len(some) >= own.j:
                        self.check_same(lot, lot_of(array, some))

    def test_any_heads_tell_the_lot(self):
        for numbers in SMALL:
            array, own = Array(*numbers), Own(*numbers)
            lots = own.all_lots()
            for number in sorted({0, 1, 2, own.lots // 2, own.lots - 2, own.lots - 1} & set(range(own.lots))):
                points = list(enumerate(own.word_of_number(number)))
                for some in subsets(points, None if own.H < 7 else own.j + 1):
                    if len(some) < own.j:
                        self.check_count(TooFew, len(some), lot_of, array, some)
                    else:
                        self.check_same(lots[number], lot_of(array, some))
                        self.check_same(lots[number], lot_of(array, tuple(some)))

    def test_all_contents_of_all_heads_of_small_arrays(self):
        for numbers in [(2, 1, 1, 1, 2), (2, 1, 3, 1, 5), (3, 1, 2, 2, 5), (1, 0, 9, 1, 5), (2, 0, 6, 2, 7)]:
            array, own = Array(*numbers), Own(*numbers)
            lots = own.all_lots()
            for heads in subsets(range(own.H)):
                for contents in itertools.product(range(1, own.q), repeat=len(heads)):
                    points = list(zip(heads, contents))
                    if len(points) < own.j:
                        self.check_count(TooFew, len(points), lot_of, array, points)
                    else:
                        self.check_same(lots[own.number_of_points(points)], lot_of(array, points))

    def test_numbers_that_no_lot_has(self):
        # Three lots, and 11 ** 2 numbers for 20 of them: the remainder by the number of lots is the number.
        array = Array(2, 1, 3, 1, 5)
        self.assertEqual([lot_of(array, [(2, content)]) for content in range(1, 5)], [[0], [1], [2], [0]])
        array = Array(4, 1, 6, 3, 13)
        own = Own(4, 1, 6, 3, 13)
        found = []
        for number in range(121):
            points = list(enumerate(own.word_of_number(number)))
            for some in subsets(points):
                if len(some) >= 2:
                    found.append(lot_number(array, lot_of(array, some)) - number % 20)
        self.assertEqual(sorted(set(found)), [0])

    def test_contents_beyond_the_prime(self):
        # With 13 contents the prime is 11: the content 12 stands for the remainder of 11 by it, as the content 1 does.
        array, own = Array(4, 1, 6, 3, 13), Own(4, 1, 6, 3, 13)
        for heads in subsets(range(4)):
            for contents in itertools.product([1, 11, 12], repeat=len(heads)):
                points = list(zip(heads, contents))
                if len(points) >= 2:
                    less = [(head, 1 if content == 12 else content) for head, content in points]
                    self.check_same(lot_of(array, less), lot_of(array, points))
                    self.check_same(own.all_lots()[own.number_of_points(points)], lot_of(array, points))

    def test_further_heads_need_not_fit(self):
        for numbers in [(4, 1, 6, 3, 13), (3, 1, 8, 4, 13), (6, 2, 24, 12, 41), (4, 1, 3, 2, 7), (3, 1, 2, 2, 5)]:
            array, own = Array(*numbers), Own(*numbers)
            lot = lot_at(array, own.lots - 1)
            points = list(enumerate(own.word_of_number(own.lots - 1)))
            behind = [(head, content % (own.q - 1) + 1) for head, content in points[own.j:]]
            self.check_same(lot, lot_of(array, points[:own.j] + behind))
            if own.j > 0:
                ahead = [(0, points[0][1] % (own.q - 1) + 1)]
                wanted = own.number_of_points(ahead + points[1:])
                self.check_same(lot_at(array, wanted), lot_of(array, ahead + points[1:]))

    def test_wrong_points(self):
        for numbers in [(4, 1, 6, 3, 13), (4, 1, 3, 2, 7), (3, 1, 2, 2, 5), (3, 1, 8, 4, 13)]:
            array, own = Array(*numbers), Own(*numbers)
            right = [(head, 1) for head in range(own.H)]
            wrong = [None, True, 1, "", "11", [1, 1], [], (), (1,), (1, 1, 1), (-1, 1), (0, 0), (0, -1), (own.H, 1), (0, own.q),
                     (own.H - 1, 0), (own.H + 1, 1), (0, own.q + 1), (10 ** 59, 1), (0, 10 ** 59), (True, 1), (0, True),
                     (False, 1), (None, 1), (0, None), ("0", 1), (0, "1"), ((0,), 1), (0, (1,)), {"a": 1}, Plain(), Touchy()]
            for at in range(own.H + 1):
                for item in wrong:
                    for points in (right[:at] + [item] + right[at:], right[:at] + [item] + right[at + 1:], [item]):
                        self.check_given(InvalidHeads, points, lot_of, array, points)
                        whole = tuple(points)
                        self.check_given(InvalidHeads, whole, lot_of, array, whole)

    def test_a_0_at_any_spot(self):
        for numbers in SMALL:
            array, own = Array(*numbers), Own(*numbers)
            for at in range(own.H):
                points = [(head, 0 if head == at else 1) for head in range(own.H)]
                self.check_given(InvalidHeads, points, lot_of, array, points)

    def test_heads_that_do_not_ascend(self):
        array = Array(4, 1, 6, 3, 13)
        for heads in itertools.product(range(4), repeat=3):
            points = [(head, 2) for head in heads]
            if list(heads) == sorted(set(heads)):
                self.assertIsNone(caught(lot_of, array, points))
            else:
                self.check_given(InvalidHeads, points, lot_of, array, points)
        for points in no_lists():
            self.check_given(InvalidHeads, points, lot_of, array, points)

    def test_too_few_comes_behind_the_points(self):
        for numbers in [(4, 1, 6, 3, 13), (4, 1, 3, 2, 7), (6, 2, 24, 12, 41)]:
            array, own = Array(*numbers), Own(*numbers)
            for count in range(own.j):
                self.check_count(TooFew, count, lot_of, array, [(head, 1) for head in range(count)])
                if count:
                    points = [(head, own.q) for head in range(count)]
                    self.check_given(InvalidHeads, points, lot_of, array, points)
        self.assertEqual(lot_of(Array(3, 1, 2, 2, 5), []), [0, 1])


if __name__ == "__main__":
    unittest.main()
