"""[7]: the main statements, by stores, views, counts, kinds, few values and plans together on small arrays."""

import itertools
import random
import unittest

from checks import Checks
from reckoning import PRIMES, Own, OwnBlocks, choose, subsets, written
from storing import SOME, opened
from sparesum.arrays import Array, all_blocks, blocks_on
from sparesum.changes import change_groups, finish_groups
from sparesum.counting import enough, is_exact, least_told, lines_allow, wishes
from sparesum.disks import Disks
from sparesum.examiner import examine, views_left
from sparesum.few import three_mending, three_steps, three_told, two_mending, two_steps, two_told
from sparesum.heads import told
from sparesum.histories import could_be, is_right
from sparesum.kinds import Kind, clash, is_clash, needed, settling, tell
from sparesum.lots import lot_at
from sparesum.meaning import read
from sparesum.plans import Plan, first_break, line_count
from sparesum.stores import Store
from sparesum.taking import take_all


def formula(n, f, m, k, j):
    return n * (m + k) + j + 1 + f * -(-(j + 1) // (n - f))


def own_symbols(n, f, m, k, q):
    """j by the words of [7], or None if there is none."""
    lots = choose(m, k)
    if k == m:
        return 0
    if lots < q:
        return 1
    for j in range(2, 30):
        heads = j + 1 + f * -(-(j + 1) // (n - f))
        if any(heads <= p < q and p ** j >= lots for p in PRIMES):
            return j
    return None


class Blocks(Checks, unittest.TestCase):
    def test_the_blocks_of_an_array(self):
        chance = random.Random(71)
        for _ in range(300):
            n, m = chance.randint(1, 12), chance.choice([1, 2, 3, 6, 12, 24])
            f, k, q = chance.randrange(n), chance.randint(1, m), chance.choice([prime for prime in PRIMES if prime >= n][:40])
            j = own_symbols(n, f, m, k, q)
            self.assertEqual(j, Own(n, f, m, k, q).j)
            if j is not None:
                array = Array(n, f, m, k, q)
                self.assertEqual([array.symbols, all_blocks(array), enough(n, f, m, k, q)], [j, formula(n, f, m, k, j), formula(n, f, m, k, j)])
                self.assertEqual(sum(blocks_on(array, disk) for disk in range(n)), formula(n, f, m, k, j))
                self.assertEqual(sum(len(row) for row in Disks(array).settled()), formula(n, f, m, k, j))

    def test_what_no_store_does_with_fewer(self):
        exact = 0
        for n, m in itertools.product((1, 2, 3, 5, 8, 12), (1, 2, 3, 6, 12, 18, 24)):
            for f, k, q in itertools.product(sorted({0, 1, n - 1} & set(range(n))), sorted({1, 2, 3, m} & set(range(1, m + 1))), (7, 13, 101, 499, 821, 997)):
                needs, lots, d = [], choose(m, k), n - f
                if k == m and q > 4 * d * m and q >= 7:
                    needs.append(n * 2 * m + f + 1)
                if k < m and (lots - 1) * q >= 2 * d * (m + k) and q ** d > k * lots:
                    needs.append(n * (m + k) + f + 1)
                needs += [formula(n, f, m, k, j) for j in range(1, 20) if lots > 2 * (d * (m + k) + j) * q ** (j - 1) and q ** d > k * lots]
                self.assertEqual(least_told(n, f, m, k, q), max(needs, default=None))
                if q >= n and Own(n, f, m, k, q).j is not None:
                    self.assertLessEqual(max(needs, default=0), enough(n, f, m, k, q))
                    exact += is_exact(n, f, m, k, q)
                    if k == m and needs:
                        self.assertIs(is_exact(n, f, m, k, q), True)
        self.assertGreater(exact, 100)

    def test_the_lines_of_stores_that_lose_all_but_some_disks(self):
        # A store keeps the records on any d disks, so that their blocks have at least as many lines as there are pairs.
        for numbers in SOME:
            array, own = Array(*numbers), OwnBlocks(*numbers)
            for left in itertools.combinations(range(own.n), own.d):
                blocks = sum(own.sizes()[disk] for disk in left)
                self.assertIs(lines_allow(blocks, own.d, own.m, own.k, own.q), True)
            self.assertEqual(wishes(own.d, own.m, own.k, own.q) > 0, array.changes > 0)


class Stores(Checks, unittest.TestCase):
    """Each answered change stands, and each one that a cut ended stands wholly or not at all."""

    def test_long_rows(self):
        chance, ended = random.Random(72), {"granted": 0, "not": 0}
        for numbers in SOME:
            own = OwnBlocks(*numbers)
            for _ in range(3 if own.n < 5 else 1):
                self.check_row(own, chance, ended)
        self.assertGreater(min(ended.values()), 20)

    def check_row(self, own, chance, ended):
        array, records = Array(own.n, own.f, own.m, own.k, own.q), own.some_records(chance.randrange(50))
        store, start, events = opened(own, records), list(records), []
        for _ in range(60):
            wish = [(record, tuple(chance.randrange(own.q) for _ in range(own.d)))
                    for record in sorted(chance.sample(range(own.m), chance.randint(1, own.k)))]
            store.begin(wish)
            events.append(("wish", wish))
            self.go_on(store, own, chance, chance.randrange(60))
            new = own.granted(records, wish)
            if store.work() is None:
                records = new
                events.append(("done",))
            else:
                records = self.check_cut(store, own, chance, events, records, new)
                ended["granted" if records == new else "not"] += 1
            events.append(("told", store.records()))
            self.assertEqual(store.records(), records)
            if chance.random() < 0.3:
                missing = [disk for disk in range(own.n) if disk not in store.disks.inside()]
                self.assertEqual([take_all(store), store.records()], [missing, records])
        self.assertIs(is_right(array, start, events), True)
        self.assertEqual(could_be(array, start, events), [records])

    def go_on(self, store, own, chance, count):
        """Some steps of the work, with losses and new disks amid them."""
        while count and store.work() is not None:
            self.lose_some(store, own, chance, 0.05)
            store.step()
            count -= 1

    def lose_some(self, store, own, chance, often):
        for disk in range(own.n):
            if chance.random() < often and disk not in store.disks.lost():
                if len([other for other in store.disks.inside() if other != disk]) >= own.d:
                    store.lose(disk)
            elif chance.random() < often and disk in store.disks.lost():
                store.replace(disk)

    def check_cut(self, store, own, chance, events, old, new):
        """A cut, and openings that are cut again: what is told when it is first open stays."""
        for _ in range(chance.randint(1, 4)):
            places = sorted({write[:2] for write in store.disks.pending()})
            some = chance.sample(places, chance.randint(0, len(places)))
            store.cut([(*place, chance.randrange(own.q)) for place in some])
            events.append(("cut",))
            self.go_on(store, own, chance, chance.randrange(12))
            if store.work() is None:
                break
        if store.work() is not None:
            store.finish()
        self.assertIn(store.records(), [old, new])
        return store.records()

    def test_any_views_that_are_left_tell_enough(self):
        for numbers in [(2, 1, 3, 1, 5), (3, 1, 2, 2, 5), (4, 1, 3, 2, 7), (3, 2, 4, 2, 7)]:
            array = Array(*numbers)
            for number in range(array.lots):
                lot = lot_at(array, number)
                for view in views_left(array, lot):
                    self.assertIn(told(array, view), [lot, None])

    def test_one_examined_change_of_each_small_array(self):
        for numbers in [(1, 0, 1, 1, 2), (1, 0, 2, 1, 3), (2, 1, 1, 1, 3), (2, 1, 2, 1, 5), (3, 2, 1, 1, 3)]:
            own = OwnBlocks(*numbers)
            records = own.some_records(1)
            old, new, other = examine(Array(*numbers), own.good(records, 1), [(0, tuple((item + 1) % own.q for item in records[0]))])
            self.assertEqual([old > 0, new > 0, other], [True, True, 0])


class HeadsInARow(Checks, unittest.TestCase):
    def test_just_as_many_heads_as_needed(self):
        for name, j, e in itertools.product(("star", "bit", "plain"), (1, 2, 3), (1, 2, 3)):
            count = {"star": j + e, "bit": 2 * j + 2 * e - 1, "plain": 3 * j + 2 * e - 2}[name]
            kind = Kind(name, next(prime for prime in PRIMES if prime >= max(5, count)), j, e)
            self.assertEqual(needed(kind), count)
            view, one, other = clash(kind)
            self.assertEqual(len(view), count - 1)
            self.assertIs(is_clash(kind, (view, one, other)), True)

    def test_any_number_of_values_on_three_disks_that_are_there(self):
        # f + 3 disks with one block on each keep any number of values: plain heads of one symbol, one at a time.
        for p in (5, 7, 13):
            kind = Kind("plain", p, 1, 1)
            self.assertEqual(needed(kind), 3)
            for old, new, length in itertools.product(range(p), (0, 1, p - 1), (3, 4, 5)):
                whole = [(place, old) for place in range(length)]
                for at, torn in itertools.product(range(length), range(p)):
                    left = [(place, new if place < at else torn if place == at else old) for place in range(length)]
                    for view in subsets(left):
                        if len(view) >= 3:
                            self.check_opened(kind, view, (old, new))
                self.assertEqual(tell(kind, whole), (old,))

    def check_opened(self, kind, view, values):
        told_now, now = tell(kind, view), dict(view)
        self.assertIn(told_now[0], values)
        for group in settling(kind, view):
            now.update(group)
        self.assertEqual(set(now.values()), {told_now[0]})


class FewValues(Checks, unittest.TestCase):
    def check_changes(self, least, values, tells, mends, steps):
        """Whatever is lost and cut, a change of any value to any other one tells the old or the new one, and stays."""
        for length in range(least, 5):
            for old, new in itertools.product(values, values):
                now = [old] * length
                for left in self.left_by(now, steps(now, new)):
                    for view in subsets(left):
                        if len(view) >= least:
                            self.check_stays(view, (old, new), tells, mends)

    def left_by(self, view, writes):
        now = list(view)
        yield list(now)
        for index, content in writes:
            for torn in range(5):
                yield now[:index] + [torn] + now[index + 1:]
            now[index] = content
        yield now

    def check_stays(self, view, values, tells, mends):
        told_now = tells(view)
        self.assertIn(told_now, values)
        now = list(view)
        for index, content in mends(view):
            now[index] = content
        self.assertEqual([tells(now), mends(now)], [told_now, []])

    def test_two_values_on_one_disk_that_is_there(self):
        self.check_changes(1, (0, 1), two_told, two_mending, two_steps)

    def test_three_values_on_two_disks_that_are_there(self):
        self.check_changes(2, (0, 1, 2), three_told, three_mending, three_steps)


class Plans(Checks, unittest.TestCase):
    def plan_of_store(self, q):
        """What a store with one record of one content does on one disk: a home block, a head and a new block."""
        array = Array(1, 0, 1, 1, q)
        self.assertEqual(blocks_on(array, 0), 3)
        fillings = list(itertools.product(range(q), repeat=3))
        entries = [self.told_in_the_end(array, filling) for filling in fillings]
        rests = [fillings.index((value, 0, 0)) for value in range(q)]
        paths = [[[] if old == new else self.writes(array, old, new) for new in range(q)] for old in range(q)]
        return Plan(3, q, q, entries, rests, paths)

    def told_in_the_end(self, array, filling):
        blocks = [list(filling)]
        records = read(array, blocks)
        for group in finish_groups(array, blocks):
            blocks = written(blocks, group)
        self.assertEqual(read(array, blocks), records)
        return records[0][0]

    def writes(self, array, old, new):
        return [write[1:] for group in change_groups(array, [[old, 0, 0]], [(0, (new,))]) for write in group]

    def test_a_store_is_a_plan_without_a_break(self):
        for q in (2, 3, 5, 7, 11, 13):
            plan = self.plan_of_store(q)
            self.assertIsNone(first_break(plan))
            self.assertEqual(line_count(plan), 3 * q * q)
            self.assertLessEqual(q * (q - 1) // 2, line_count(plan))
            self.assertEqual(enough(1, 0, 1, 1, q), plan.blocks)

    def test_with_one_block_fewer_each_plan_breaks(self):
        chance = random.Random(73)
        for q in (7, 11, 13):
            self.assertEqual(least_told(1, 0, 1, 1, q), 3)
            self.assertIs(lines_allow(2, 1, 1, 1, q), False)
            self.assertIs(lines_allow(3, 1, 1, 1, q), True)
            for _ in range(30):
                rests = chance.sample(range(q * q), q)
                entries = [chance.randrange(q) for _ in range(q * q)]
                for value, number in enumerate(rests):
                    entries[number] = value
                paths = [[[(block, rests[new] // (q, 1)[block] % q) for block in chance.sample((0, 1), 2)] if new != old else []
                          for new in range(q)] for old in range(q)]
                plan = Plan(2, q, q, entries, rests, paths)
                self.assertGreater(q * (q - 1) // 2, line_count(plan))
                self.assertIsNotNone(first_break(plan))

    def test_a_store_without_its_last_block_breaks(self):
        # Home blocks written straight, without a head and a new block: a torn write tells another value.
        for q in (3, 5, 7):
            paths = [[[] if old == new else [(0, new)] for new in range(q)] for old in range(q)]
            self.assertEqual(first_break(Plan(1, q, q, list(range(q)), list(range(q)), paths)), (0, 1, 0, 2))

    def test_a_store_on_new_disks(self):
        for numbers in SOME:
            store = Store(Disks(Array(*numbers)))
            self.assertEqual([store.finish(), store.records()], [1, [(0,) * (numbers[0] - numbers[1])] * numbers[2]])


if __name__ == "__main__":
    unittest.main()
