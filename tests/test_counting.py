"""[141] to [145]: the numbers from both sides, by the test's own reckoning."""

import functools
import itertools
import random
import time
import unittest

from checks import Checks, caught, no_integers, no_lists
from reckoning import PRIMES, Own
from reckoning import choose as reckoned
from sparesum.arrays import Array, all_blocks
from sparesum.counting import (enough, heads_for, is_enough_in_turn, is_exact, least_told, lines_allow, syncs_for, wishes)
from sparesum.errors import (InvalidBlocks, InvalidChanges, InvalidContents, InvalidDisks, InvalidHeads, InvalidLost,
                             InvalidPending, InvalidRecords, InvalidSymbols, NoHeads)

HUGE = 10 ** 59

choose = functools.cache(reckoned)


def outside(low, high):
    """Values that are no integers from low to high."""
    return [low - 1, high + 1, low - 2, -high, 10 * high + 1, HUGE, -HUGE, *no_integers()]


def up(number, divisor):
    """The least integer not below the quotient."""
    return (number + divisor - 1) // divisor


def own_conditions(n, f, m, k, q):
    """The numbers that the conditions of [143] tell, each None where it is not met."""
    d, lots = n - f, choose(m, k)
    first = n * 2 * m + f + 1 if k == m and q > 4 * d * m and q >= 7 else None
    second = n * (m + k) + f + 1 if k < m and (lots - 1) * q >= 2 * d * (m + k) and q ** d > k * lots else None
    third = [n * (m + k) + j + 1 + f * up(j + 1, d) for j in range(1, 30)
             if lots > 2 * (d * (m + k) + j) * q ** (j - 1) and q ** d > k * lots]
    return first, second, third


def own_least(*numbers):
    first, second, third = own_conditions(*numbers)
    return max([number for number in (first, second, *third) if number is not None], default=None)


def own_wishes(d, m, k, q):
    return sum(choose(m, i) * (q ** d - 1) ** i for i in range(1, k + 1))


def own_lines_allow(blocks, d, m, k, q):
    return q ** (d * m) * own_wishes(d, m, k, q) <= 2 * blocks * q ** (blocks - 1)


def own_in_turn(order, n, f, j, e):
    """[145] by its words."""
    for left in itertools.combinations(range(n), n - f):
        x = [index for index, disk in enumerate(order) if disk in left]
        if not (len(x) > j and x[-1] - x[j - 1] >= e):
            return False
    return True


class Base(Checks, unittest.TestCase):
    def check_first_wrong(self, function, right, wrong, chance):
        """Each argument wrong alone, and the first of several: wrong is a list of (index, error class, values)."""
        for index, error_class, values in wrong:
            for value in values:
                self.check_given(error_class, value, function, *right[:index], value, *right[index + 1:])
        for _ in range(200):
            some = sorted(chance.sample(range(len(wrong)), chance.randint(1, len(wrong))))
            given = list(right)
            for at in some:
                given[wrong[at][0]] = chance.choice(wrong[at][2])
            self.check_given(wrong[some[0]][1], given[wrong[some[0]][0]], function, *given)


class Enough(Base):
    def test_examples(self):
        self.check_same([172, 172, True], [enough(8, 2, 18, 3, 821), least_told(8, 2, 18, 3, 821), is_exact(8, 2, 18, 3, 821)])
        self.check_same([368, 366, 8, None], [enough(12, 2, 24, 6, 13), least_told(12, 2, 24, 6, 13), enough(3, 1, 1, 1, 7),
                                              least_told(3, 1, 1, 1, 7)])

    def test_by_the_formula(self):
        chance = random.Random(141)
        for _ in range(400):
            n, m = chance.randint(1, 12), chance.randint(1, 24)
            f, k, q = chance.randrange(n), chance.randint(1, m), chance.choice([prime for prime in PRIMES if prime >= n])
            own = Own(n, f, m, k, q)
            if own.j is None:
                self.assertIs(type(caught(enough, n, f, m, k, q)), NoHeads)
                self.assertIs(type(caught(is_exact, n, f, m, k, q)), NoHeads)
                continue
            wanted = n * (m + k) + own.j + 1 + f * up(own.j + 1, n - f)
            self.check_same(wanted, enough(n, f, m, k, q))
            self.assertEqual(wanted, all_blocks(Array(n, f, m, k, q)))
            self.assertIs(is_exact(n, f, m, k, q), own_least(n, f, m, k, q) == wanted)

    def test_what_array_raises(self):
        chance = random.Random(1)
        wrong = [(0, InvalidDisks, outside(1, 12)), (1, InvalidLost, outside(0, 3)), (2, InvalidRecords, outside(1, 24)),
                 (3, InvalidChanges, outside(1, 6)), (4, InvalidContents, [*outside(4, 997), 4, 6, 9, 12, 993, 3, 2])]
        for function in (enough, is_exact):
            self.check_first_wrong(function, [4, 1, 6, 3, 13], wrong, chance)
            for numbers, lots in [((3, 1, 4, 2, 3), 6), ((1, 0, 2, 1, 2), 2), ((12, 11, 24, 12, 13), choose(24, 12))]:
                error = caught(function, *numbers)
                self.assertIs(type(error), NoHeads)
                self.assertEqual(error.lots, lots)


class Wishes(Base):
    def test_examples(self):
        self.check_same([4, True, False, 15], [wishes(1, 2, 1, 3), lines_allow(3, 1, 2, 1, 3), lines_allow(2, 1, 2, 1, 3),
                                               wishes(2, 2, 2, 2)])
        self.check_given(InvalidChanges, 3, wishes, 1, 2, 3, 3)

    def test_counted_one_by_one(self):
        for d, m, q in [(1, 1, 2), (1, 1, 5), (1, 2, 4), (2, 2, 2), (2, 2, 3), (1, 4, 3), (3, 2, 2), (1, 6, 2), (2, 3, 2)]:
            contents = list(itertools.product(range(q), repeat=d))
            rows = list(itertools.product(contents, repeat=m))
            for k in range(1, m + 1):
                count = sum(1 <= sum(one != other for one, other in zip(row, rows[0])) <= k for row in rows)
                self.check_same(count, wishes(d, m, k, q))

    def test_by_the_formula(self):
        for d, m, q in itertools.product((1, 2, 5, 11, 12), (1, 2, 3, 7, 23, 24), (2, 3, 4, 6, 10, 100, 996, 997)):
            for k in sorted({1, 2, m // 2, m - 1, m} & set(range(1, m + 1))):
                self.check_same(own_wishes(d, m, k, q), wishes(d, m, k, q))
                self.check_same(own_wishes(d, m, k, q), wishes(need=d, records=m, changes=k, contents=q))

    def test_wrong_numbers(self):
        chance = random.Random(2)
        wrong = [(0, InvalidDisks, outside(1, 12)), (1, InvalidRecords, outside(1, 24)), (2, InvalidChanges, outside(1, 6)),
                 (3, InvalidContents, outside(2, 997))]
        self.check_first_wrong(wishes, [4, 6, 3, 12], wrong, chance)
        later = [(index + 1, error_class, values) for index, error_class, values in wrong]
        self.check_first_wrong(lines_allow, [40, 4, 6, 3, 12], [(0, InvalidBlocks, outside(1, 1000)), *later], chance)

    def test_changes_above_the_records(self):
        for m in (1, 2, 23, 24):
            self.check_given(InvalidChanges, m + 1, wishes, 1, m, m + 1, 5)
            self.check_given(InvalidChanges, m + 1, lines_allow, 5, 1, m, m + 1, 5)
            self.check_given(InvalidChanges, m + 1, least_told, 1, 0, m, m + 1, 5)
            self.assertIsNone(caught(wishes, 1, m, m, 5))

    def test_all_numbers_of_blocks(self):
        for d, m, k, q in [(1, 1, 1, 2), (1, 2, 1, 3), (2, 2, 2, 4), (3, 5, 2, 6), (1, 24, 12, 10), (6, 18, 3, 821), (2, 3, 3, 997)]:
            told = [lines_allow(blocks, d, m, k, q) for blocks in range(1, 201)]
            self.check_same([own_lines_allow(blocks, d, m, k, q) for blocks in range(1, 201)], told)
            self.assertEqual(sorted(told), told)
            self.assertEqual(set(told), {True} if d * m == 1 else {False, True})

    def test_just_as_many_lines_as_pairs(self):
        # q ** (d * m) * wishes == 2 * N * q ** (N - 1): then they are enough.
        equal = [(blocks, d, m, k, q) for d, m, q in itertools.product((1, 2), (1, 2, 3), range(2, 80)) for k in range(1, m + 1)
                 for blocks in range(1, 12) if q ** (d * m) * own_wishes(d, m, k, q) == 2 * blocks * q ** (blocks - 1)]
        self.assertGreater(len(equal), 3)
        for numbers in equal:
            self.assertIs(lines_allow(*numbers), True)

    def test_greatest_numbers(self):
        for blocks, d, m, k, q in itertools.product((1, 2, 287, 288, 289, 290, 576, 577, 578, 579, 580, 999, 1000), (1, 12), (1, 24), (1, 24), (2, 996, 997)):
            if k <= m:
                self.assertIs(lines_allow(blocks, d, m, k, q), own_lines_allow(blocks, d, m, k, q))

    def test_drawn_numbers(self):
        chance, seen = random.Random(142), []
        for _ in range(1500):
            d, m, q = chance.randint(1, 12), chance.randint(1, 24), chance.randint(2, 997)
            k = chance.randint(1, m)
            blocks = max(1, min(1000, d * (m + k) + chance.randint(-4, 4)))
            seen.append(lines_allow(blocks, d, m, k, q))
            self.assertIs(seen[-1], own_lines_allow(blocks, d, m, k, q))
        self.assertGreater(min(seen.count(True), seen.count(False)), 300)


class Needed(Base):
    def check_least(self, *numbers):
        self.check_same(own_least(*numbers), least_told(*numbers))
        return own_conditions(*numbers)

    def test_drawn_numbers(self):
        chance, seen = random.Random(143), {}
        for _ in range(4000):
            n, m = chance.randint(1, 12), chance.randint(1, 24)
            f, k, q = chance.randrange(n), chance.choice([m, chance.randint(1, m)]), chance.choice([chance.randint(2, 60), chance.randint(2, 997)])
            first, second, third = self.check_least(n, f, m, k, q)
            key = (first is not None, second is not None, len(third))
            seen[key] = seen.get(key, 0) + 1
        for key in [(False, False, 0), (True, False, 0), (False, True, 0), (False, True, 1), (False, True, 2), (False, True, 3)]:
            self.assertGreater(seen.get(key, 0), 5, key)

    def test_all_records_at_once(self):
        # q > 4 * d * m, and q >= 7.
        for n, f, m in [(1, 0, 1), (2, 1, 1), (2, 0, 1), (3, 1, 1), (4, 1, 3), (8, 2, 18), (12, 0, 20), (12, 11, 24), (5, 2, 24)]:
            limit = 4 * (n - f) * m
            for q in sorted({2, 4, 5, 6, 7, 8, limit - 1, limit, limit + 1, limit + 2, 996, 997}):
                if 2 <= q <= 997:
                    met = q > limit and q >= 7
                    self.check_same(n * 2 * m + f + 1 if met else None, least_told(n, f, m, m, q))
                    self.check_least(n, f, m, m, q)
        self.check_same([None, None, 3, 5, None, None, 6], [least_told(1, 0, 1, 1, 5), least_told(1, 0, 1, 1, 6), least_told(1, 0, 1, 1, 7),
                                                      least_told(2, 0, 1, 1, 9), least_told(2, 0, 1, 1, 8), least_told(2, 1, 1, 1, 6),
                                                      least_told(2, 1, 1, 1, 7)])

    def boundaries(self, met):
        """Numbers at which a condition is just met, and such at which it is just not, as q grows by one."""
        found = []
        for n, m in itertools.product((1, 2, 5, 12), (2, 3, 4, 9, 12, 24)):
            for f, k in itertools.product(sorted({0, 1, n // 2, n - 1} & set(range(n))), sorted({1, 2, m // 2, m - 1} & set(range(1, m)))):
                row = [met(n, f, m, k, q) for q in range(2, 998)]
                for at, (one, other) in enumerate(zip(row, row[1:])):
                    if one != other:
                        found += [(n, f, m, k, 2 + at), (n, f, m, k, 3 + at)]
        return found

    def test_the_line_with_2dmk(self):
        found = self.boundaries(lambda n, f, m, k, q: (choose(m, k) - 1) * q >= 2 * (n - f) * (m + k))
        self.assertGreater(len(found), 40)
        for numbers in found:
            self.check_least(*numbers)
        equal = [numbers for numbers in found
                 if (choose(numbers[2], numbers[3]) - 1) * numbers[4] == 2 * (numbers[0] - numbers[1]) * (numbers[2] + numbers[3])]
        met = [numbers for numbers in equal if own_conditions(*numbers)[1] is not None]
        self.assertGreater(len(met), 3)

    def test_the_line_with_the_words(self):
        found = self.boundaries(lambda n, f, m, k, q: q ** (n - f) > k * choose(m, k))
        self.assertGreater(len(found), 40)
        equal = [numbers for numbers in found if numbers[4] ** (numbers[0] - numbers[1]) == numbers[3] * choose(numbers[2], numbers[3])]
        self.assertGreater(len(equal), 5)
        for numbers in found:
            self.check_least(*numbers)
        for numbers in equal:
            self.check_same(None, least_told(*numbers))
            self.assertIsNotNone(caught(least_told, *numbers[:4], None))

    def test_each_j(self):
        for j in range(1, 6):
            met = (lambda n, f, m, k, q: choose(m, k) > 2 * ((n - f) * (m + k) + j) * q ** (j - 1) and q ** (n - f) > k * choose(m, k))
            found = self.boundaries(met)
            if j > 1:
                self.assertGreater(len(found), 2, j)
            for numbers in found:
                self.check_least(*numbers)
        # The greatest j that is met counts.
        for numbers in [(12, 2, 24, 12, 13), (12, 0, 24, 12, 7), (8, 2, 18, 3, 821), (12, 1, 24, 11, 5), (12, 0, 24, 12, 3)]:
            _, second, third = self.check_least(*numbers)
            if third:
                self.assertEqual(least_told(*numbers), third[-1])
        self.assertEqual(len(own_conditions(12, 0, 24, 12, 5)[2]), 5)

    def test_equal_in_the_third_condition(self):
        # C == 2 * (d * (m + k) + j) * q ** (j - 1) is not above it.
        equal = [(n, f, m, k, q, j) for n in range(1, 13) for f in range(n) for m in range(2, 25) for k in range(1, m)
                 for j in (1, 2) for q in ([7, 997] if j == 1 else range(2, 60))
                 if choose(m, k) == 2 * ((n - f) * (m + k) + j) * q ** (j - 1) and q ** (n - f) > k * choose(m, k)]
        self.assertGreater(len(equal), 2)
        for *numbers, j in equal:
            third = own_conditions(*numbers)[2]
            self.assertEqual(len(third), j - 1)
            self.check_least(*numbers)

    def test_never_above_enough(self):
        chance, exact = random.Random(3), {}
        for _ in range(1500):
            n, m = chance.randint(1, 12), chance.randint(1, 24)
            f, k, q = chance.randrange(n), chance.randint(1, m), chance.choice([prime for prime in PRIMES if prime >= n])
            if Own(n, f, m, k, q).j is None:
                continue
            least = least_told(n, f, m, k, q)
            self.assertTrue(least is None or least <= enough(n, f, m, k, q))
            self.assertIs(is_exact(n, f, m, k, q), least == enough(n, f, m, k, q))
            exact[is_exact(n, f, m, k, q)] = True
        self.assertEqual(sorted(exact), [False, True])

    def test_wrong_numbers(self):
        chance = random.Random(4)
        wrong = [(0, InvalidDisks, outside(1, 12)), (1, InvalidLost, outside(0, 3)), (2, InvalidRecords, outside(1, 24)),
                 (3, InvalidChanges, outside(1, 6)), (4, InvalidContents, outside(2, 997))]
        self.check_first_wrong(least_told, [4, 1, 6, 3, 12], wrong, chance)
        # Contents need be no prime, and may be fewer than the disks.
        for q in range(2, 20):
            self.check_least(12, 2, 24, 3, q)


class Syncs(Base):
    def test_examples(self):
        self.check_same([4, 5, 6, 10, 8, 6], [heads_for(6, 2, 1, 1), heads_for(6, 2, 1, 2), heads_for(6, 2, 1, 3), syncs_for(4, 1),
                                              syncs_for(5, 2), syncs_for(6, 3)])
        self.check_same([6, True, False], [heads_for(1, 1, 1, 2), is_enough_in_turn([0, 1, 0, 1], 2, 1, 1, 2),
                                           is_enough_in_turn([0, 0, 1, 1], 2, 1, 1, 2)])

    def test_all_heads_for(self):
        for d, f, j, e in itertools.product((1, 2, 3, 6, 11, 12), (0, 1, 2, 5, 11), (1, 2, 3, 12, 63, 64), (1, 2, 3, 12, 63, 64)):
            self.check_same(j + e + f * up(j + e, d), heads_for(d, f, j, e))

    def test_heads_of_an_array(self):
        for n, f, m, k, q in [(4, 1, 6, 3, 13), (2, 1, 3, 1, 5), (12, 6, 5, 2, 13), (3, 1, 8, 4, 13)]:
            array = Array(n, f, m, k, q)
            self.assertEqual(heads_for(array.need, f, array.symbols, 1), array.heads)

    def test_all_syncs_for(self):
        for heads, e in itertools.product([*range(1, 70), 127, 128, 129, 1999, 2000], range(1, 65)):
            groups = len([heads_left for heads_left in range(heads, 0, -e)])
            self.check_same(groups + 1 + groups + 1, syncs_for(heads, e))

    def test_wrong_numbers(self):
        chance = random.Random(5)
        wrong = [(0, InvalidDisks, outside(1, 12)), (1, InvalidLost, outside(0, 11)), (2, InvalidSymbols, outside(1, 64)),
                 (3, InvalidPending, outside(1, 64))]
        self.check_first_wrong(heads_for, [4, 1, 2, 2], wrong, chance)
        self.check_first_wrong(syncs_for, [4, 2], [(0, InvalidHeads, outside(1, 2000)), (1, InvalidPending, outside(1, 64))], chance)
        # More disks may be lost than are left.
        self.check_same(1 + 1 + 11 * 2, heads_for(1, 11, 1, 1))


class InTurn(Base):
    def check_turn(self, order, n, f, j, e):
        wanted = own_in_turn(order, n, f, j, e)
        self.assertIs(is_enough_in_turn(order, n, f, j, e), wanted, (order, n, f, j, e))
        self.assertIs(is_enough_in_turn(tuple(order), n, f, j, e), wanted)
        return wanted

    def test_all_short_orders(self):
        seen = {True: 0, False: 0}
        for n in (1, 2, 3):
            for length in range(7 if n < 3 else 6):
                for order in itertools.product(range(n), repeat=length):
                    for f, j, e in itertools.product(range(n), (1, 2, 3), (1, 2, 3)):
                        seen[self.check_turn(list(order), n, f, j, e)] += 1
        self.assertGreater(min(seen.values()), 300)

    def test_orders_by_turns(self):
        for n, f, j, e in itertools.product(range(1, 7), range(4), (1, 2, 3, 5), (1, 2, 4, 7)):
            if f < n:
                count = heads_for(n - f, f, j, e)
                self.assertIs(self.check_turn([head % n for head in range(count)], n, f, j, e), True)
                fewer = self.check_turn([head % n for head in range(count - 1)], n, f, j, e)
                if j + e <= n - f:
                    self.assertIs(fewer, False)

    def test_great_orders_by_turns(self):
        for n, f, j, e in [(12, 6, 64, 64), (12, 11, 64, 64), (12, 0, 64, 1), (12, 6, 1, 64), (12, 1, 30, 30)]:
            count = heads_for(n - f, f, j, e)
            self.assertLessEqual(count, 2000)
            self.assertIs(is_enough_in_turn([head % n for head in range(count)], n, f, j, e), True)

    def test_drawn_orders(self):
        chance, seen = random.Random(145), {True: 0, False: 0}
        for _ in range(600):
            n = chance.randint(1, 6)
            f, j, e = chance.randrange(n), chance.randint(1, 6), chance.randint(1, 6)
            length = chance.randint(0, 2 * heads_for(n - f, f, j, e))
            seen[self.check_turn([chance.randrange(n) for _ in range(length)], n, f, j, e)] += 1
        self.assertGreater(min(seen.values()), 60)

    def test_disks_without_heads(self):
        for n, f in [(3, 1), (3, 0), (4, 2), (12, 6)]:
            self.assertIs(is_enough_in_turn([], n, f, 1, 1), False)
            self.assertIs(is_enough_in_turn([0] * 2000, n, f, 1, 1), f == 0)
            self.assertIs(is_enough_in_turn([0, n - 1] * 64, n, f, 64, 64), f == 0)

    def test_2000_heads_on_12_disks(self):
        chance, start = random.Random(6), time.monotonic()
        for f, j, e in [(6, 64, 64), (6, 1, 1), (5, 64, 1), (7, 1, 64)]:
            turns = [head % 12 for head in range(2000)]
            self.assertIs(is_enough_in_turn(turns, 12, f, j, e), True)
            self.assertIs(is_enough_in_turn(sorted(turns), 12, f, j, e), own_sorted(12, f, j, e))
            self.assertIs(is_enough_in_turn([chance.randrange(12) for _ in range(2000)], 12, f, j, e), True)
        self.assertLess(time.monotonic() - start, 12 * 1.5)

    def test_around_the_last_head(self):
        # Three heads on the disk that is left, of which the first tells, and e is just reached or not.
        for gap in range(1, 65):
            order = [0, *[1] * (gap - 1), 0]
            self.assertIs(self.check_turn(order + [1] * 64, 2, 1, 1, gap), own_in_turn(order + [1] * 64, 2, 1, 1, gap))
            self.assertIs(is_enough_in_turn(order, 1 + (gap > 1), 0, 1, gap), True)
            if gap < 64:
                self.assertIs(is_enough_in_turn(order, 1 + (gap > 1), 0, 1, gap + 1), False)

    def test_wrong_arguments(self):
        chance = random.Random(7)
        orders = [*no_lists(), [0, 4], [-1], [0, True], [False], [None], [0, "1"], [[0]], [HUGE], [0] * 2001, (0, 1, 4), [0, 1, 2.0]]
        wrong = [(1, InvalidDisks, outside(1, 12)), (2, InvalidLost, outside(0, 3)), (0, InvalidHeads, orders),
                 (3, InvalidSymbols, outside(1, 64)), (4, InvalidPending, outside(1, 64))]
        self.check_first_wrong(is_enough_in_turn, [[0, 1, 2, 3], 4, 1, 1, 1], wrong, chance)
        self.assertIs(is_enough_in_turn([0] * 2000, 1, 0, 64, 64), True)
        order = [0] * 2001
        self.check_given(InvalidHeads, order, is_enough_in_turn, order, 1, 0, None, None)


def own_sorted(n, f, j, e):
    """In an order with about 167 heads of each disk in a row any disk that is left does, as j and e are at most 64."""
    return j + e <= 160 and f < n


if __name__ == "__main__":
    unittest.main()
