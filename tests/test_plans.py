"""[171] to [173]: handed plans, held against the test's own walk through their fillings."""

import copy
import itertools
import random
import unittest

from checks import Checks, Plain, Touchy, caught, classes_of, no_integers, no_lists, no_tuples
from sparesum.errors import (Broken, InvalidBlock, InvalidBlocks, InvalidContents, InvalidEntries, InvalidNumber, InvalidPaths,
                             InvalidRests, InvalidValue, TooMany)
from sparesum.plans import Plan, first_break, is_break, line_count, line_of, turning

HUGE = 10 ** 59
ARGUMENTS = ["blocks", "contents", "kept", "entries", "rests", "paths"]


def filling_of(number, blocks, contents):
    """The filling with this number, block 0 the highest figure."""
    return list(itertools.product(range(contents), repeat=blocks))[number] if contents ** blocks < 3000 else tuple(
        number // contents ** (blocks - 1 - block) % contents for block in range(blocks))


def number_of(filling, contents):
    number = 0
    for content in filling:
        number = number * contents + content
    return number


def written(filling, block, content):
    return filling[:block] + (content,) + filling[block + 1:]


class OwnPlan:
    """A plan over fillings in the place of numbers."""

    def __init__(self, blocks, contents, kept, entries, rests, paths):
        self.blocks, self.contents, self.kept, self.paths = blocks, contents, kept, paths
        self.fillings = list(itertools.product(range(contents), repeat=blocks))
        self.told = dict(zip(self.fillings, entries))
        self.rests = [self.fillings[number] for number in rests]

    def is_break(self, value):
        """By the words of [172], of a tuple of four integers."""
        old, new, index, content = value
        if not (0 <= old < self.kept and 0 <= new < self.kept):
            return False
        path, filling = self.paths[old][new], self.rests[old]
        if index == len(path) and content == 0:
            for block, item in path:
                filling = written(filling, block, item)
            return self.told[filling] != new
        if not (0 <= index < len(path) and 0 <= content < self.contents):
            return False
        for block, item in path[:index]:
            filling = written(filling, block, item)
        return self.told[written(filling, path[index][0], content)] not in (old, new)

    def all_values(self, more=1):
        most = max(len(path) for row in self.paths for path in row)
        return itertools.product(range(-more, self.kept + more), range(-more, self.kept + more), range(-more, most + 1 + more),
                                 range(-more, self.contents + more))

    def first_break(self):
        return next((value for value in self.all_values() if self.is_break(value)), None)

    def turning(self, old, new):
        filling = self.rests[old]
        for block, item in self.paths[old][new]:
            behind = written(filling, block, item)
            if self.told[behind] == new:
                line = [number_of(written(filling, block, content), self.contents) for content in range(self.contents)]
                return (min(line), block)
            filling = behind


def majority(contents, kept):
    """A plan without a break on three blocks: a value is told that two blocks have, and otherwise that of the first."""
    entries = []
    for filling in itertools.product(range(contents), repeat=3):
        told = next((item for item in filling if filling.count(item) > 1), filling[0])
        entries.append(told if told < kept else 0)
    rests = [number_of((value,) * 3, contents) for value in range(kept)]
    paths = [[[(block, new) for block in (0, 1, 2)] if new != old else [] for new in range(kept)] for old in range(kept)]
    return [3, contents, kept, entries, rests, paths]


def headed(contents):
    """A plan without a break of a home block, a head and a new block: the new one tells while the head is not 0."""
    fillings = list(itertools.product(range(contents), repeat=3))
    entries = [new if head else home for home, head, new in fillings]
    rests = [number_of((value, 0, 0), contents) for value in range(contents)]
    paths = [[[(2, new), (1, 1), (0, new), (1, 0)] if new != old else [] for new in range(contents)] for old in range(contents)]
    return [3, contents, contents, entries, rests, paths]


def example():
    paths = [[[], [(1, 0), (0, 1)], [(1, 1), (0, 1)]], [[(0, 0)], [], [(1, 1)]], [[(0, 0)], [(1, 0)], []]]
    return [2, 2, 3, [0, 0, 1, 2], [0, 2, 3], paths]


def drawn(chance):
    """The arguments of a plan with anything right in them."""
    blocks, contents = chance.choice([(1, 2), (1, 3), (1, 7), (2, 2), (2, 3), (3, 2), (3, 3), (4, 2), (5, 2), (2, 5)])
    count = contents ** blocks
    kept = chance.randint(1, min(4, count))
    entries = [chance.randrange(kept) for _ in range(count)]
    rests = chance.sample(range(count), kept)
    for value, number in enumerate(rests):
        entries[number] = value
    paths = [[[(chance.randrange(blocks), chance.randrange(contents)) for _ in range(chance.randrange(4))] if new != old else []
              for new in range(kept)] for old in range(kept)]
    return [blocks, contents, kept, entries, rests, paths]


def mended(row, chance):
    """The plan with paths that go block by block to the rest of the new value, in any order of the blocks."""
    blocks, contents, kept, entries, rests, _ = row
    paths = [[[] for _ in range(kept)] for _ in range(kept)]
    for old, new in itertools.permutations(range(kept), 2):
        goal = filling_of(rests[new], blocks, contents)
        paths[old][new] = [(block, goal[block]) for block in chance.sample(range(blocks), blocks)]
    return [blocks, contents, kept, entries, rests, paths]


def right_plans():
    return [example(), *[majority(contents, kept) for contents, kept in [(2, 2), (3, 3), (4, 3), (5, 5), (16, 16)]],
            *[headed(contents) for contents in (2, 3, 5, 7)], [1, 2, 1, [0, 0], [1], [[[]]]], [1, 2, 2, [0, 1], [0, 1], [[[], [(0, 1)]], [[(0, 0)], []]]]]


def as_tuples(value):
    return tuple(map(as_tuples, value)) if isinstance(value, (list, tuple)) else value


def as_lists(value):
    """Lists all through, but for the writes."""
    if isinstance(value, tuple) and value and isinstance(value[0], int) and len(value) == 2:
        return value
    return [as_lists(item) for item in value] if isinstance(value, (list, tuple)) else value


class Made(Checks, unittest.TestCase):
    def test_examples(self):
        plan = Plan(*example())
        self.check_same([None, [1, 3], 4], [first_break(plan), line_of(plan, 1, 0), line_count(plan)])
        self.check_same([(0, 0), (2, 1), (1, 0)], [turning(plan, 0, 1), turning(plan, 1, 2), turning(plan, 2, 0)])
        worse = Plan(1, 3, 3, [0, 1, 2], [0, 1, 2], [[[], [(0, 1)], [(0, 2)]], [[(0, 0)], [], [(0, 2)]], [[(0, 0)], [(0, 1)], []]])
        self.check_same([(0, 1, 0, 2), True, False], [first_break(worse), is_break(worse, (2, 0, 0, 1)), is_break(worse, (0, 1, 0, 0))])
        error = caught(turning, worse, 0, 1)
        self.assertIs(type(error), Broken)
        self.check_same((0, 1, 0, 2), error.value)

    def test_attributes_are_tuples_all_through(self):
        for row in right_plans():
            for given in (row, as_tuples(row), [*row[:3], *as_tuples(row[3:])]):
                plan = Plan(*given)
                self.check_same([*row[:3], *map(as_tuples, row[3:])], [getattr(plan, name) for name in ARGUMENTS])
            named = Plan(**dict(zip(ARGUMENTS, row)))
            self.assertTrue(named == Plan(*row))

    def test_lists_that_are_changed_behind_it(self):
        row = example()
        plan, other = Plan(*row), Plan(*copy.deepcopy(row))
        row[3][0] = 2
        row[4].append(1)
        row[5][0][1].append((0, 0))
        row[5].append([])
        self.assertTrue(plan == other)
        self.assertEqual(classes_of(plan.paths), classes_of(other.paths))

    def test_equality(self):
        rows = [example()]
        for at, value in [(3, [0, 1, 1, 2]), (4, [1, 2, 3])]:
            rows.append(example()[:at] + [value] + example()[at + 1:])
        rows.append(example())
        rows[-1][5][0][1] = [(1, 0)]
        rows += [[2, 2, 2, [0, 0, 1, 1], [0, 2], [row[:2] for row in example()[5][:2]]], [1, 4, 1, [0] * 4, [0], [[[]]]], [2, 2, 1, [0] * 4, [0], [[[]]]]]
        for (at, one), (to, other) in itertools.product(enumerate(rows), enumerate(rows)):
            for form in (other, as_tuples(other)):
                self.assertIs(Plan(*one) == Plan(*form), at == to)
                self.assertIs(Plan(*one) != Plan(*form), at != to)
        for value in [None, True, 2, "plan", example(), as_tuples(example()), Plain()]:
            self.assertFalse(Plan(*example()) == value)

    def test_greatest_plans(self):
        for blocks, contents, count in [(14, 2, 16384), (9, 3, 19683), (7, 4, 16384), (6, 5, 15625), (5, 7, 16807), (4, 11, 14641), (3, 27, 19683),
                                        (2, 64, 4096), (1, 64, 64)]:
            plan = Plan(blocks, contents, 1, [0] * count, [count - 1], [[[]]])
            self.assertEqual([len(plan.entries), line_count(plan), first_break(plan)], [count, blocks * contents ** (blocks - 1), None])
        kept = 16
        paths = [[[] if old == new else [(0, new)] * 20 for new in range(kept)] for old in range(kept)]
        plan = Plan(1, 16, kept, list(range(16)), list(range(16)), paths)
        self.check_same((0, 1, 0, 2), first_break(plan))


class Refused(Checks, unittest.TestCase):
    def check_wrong(self, error_class, at, value, row=None):
        row = row or example()
        self.check_given(error_class, value, Plan, *row[:at], value, *row[at + 1:])
        # Whatever comes behind it.
        self.check_given(error_class, value, Plan, *row[:at], value, *[None] * (5 - at))

    def wrong_values(self):
        """For each argument its error and wrong values, for the plan of the example."""
        blocks, contents, kept, entries, rests, paths = example()
        yield 0, InvalidBlocks, [0, 17, 18, -1, HUGE, *no_integers()]
        yield 1, InvalidContents, [0, 1, 65, 66, -2, HUGE, *no_integers()]
        yield 2, InvalidValue, [0, 17, 18, -1, HUGE, *no_integers()]
        items = [-1, 3, HUGE, *no_integers()]
        yield 3, InvalidEntries, [*no_lists(), [], entries[:-1], entries + [0], [entries], "0012",
                                  *[entries[:at] + [item] + entries[at + 1:] for at in range(4) for item in items]]
        items = [-1, 4, HUGE, 1 + 2 ** 40, *no_integers()]
        yield 4, InvalidRests, [*no_lists(), [], rests[:-1], rests + [0], [rests], [2, 0, 3], [0, 2, 2], [0, 0, 3], [2, 2, 3], [0, 3, 2],
                                *[rests[:at] + [item] + rests[at + 1:] for at in range(3) for item in items]]
        yield 5, InvalidPaths, self.wrong_paths(paths)

    def wrong_paths(self, paths):
        yield from [*no_lists(), [], paths[:-1], paths + [[[], [], []]], [paths], [row[:-1] for row in paths], [row + [[]] for row in paths]]
        for old in range(3):
            for row in [*no_lists(), [], paths[old][:-1], paths[old] + [[]], [paths[old]]]:
                yield paths[:old] + [row] + paths[old + 1:]
            for new in range(3):
                wrong = [*no_lists(), [(0, 0)] * 21, [(0, 1)] * 22, [[(0, 0)]]]
                wrong += [[(0, 1)], [(0, 0)] * 2] if old == new else []
                writes = [*no_tuples(), (), (0,), (0, 0, 0), [0, 0], (-1, 0), (2, 0), (0, -1), (0, 2), (HUGE, 0), (0, HUGE), ((0, 0),)]
                for item in no_integers():
                    writes += [(item, 0), (0, item)]
                for write in writes:
                    wrong += [[write], [(0, 0), write], [write, (0, 0)]]
                for path in wrong:
                    yield [row if at != old else row[:new] + [path] + row[new + 1:] for at, row in enumerate(paths)]

    def test_each_argument(self):
        for at, error_class, values in self.wrong_values():
            for value in values:
                self.check_wrong(error_class, at, value)
                if isinstance(value, list) and not any(isinstance(item, (Plain, Touchy)) for item in value):
                    self.check_wrong(error_class, at, tuple(value))

    def test_several_at_once(self):
        chance = random.Random(171)
        wrong = [(at, error_class, list(values)) for at, error_class, values in self.wrong_values()]
        for _ in range(400):
            some = sorted(chance.sample(range(6), chance.randint(1, 6)))
            row = example()
            for at in some:
                row[at] = chance.choice(wrong[at][2])
            at, error_class, _ = wrong[some[0]]
            self.check_given(error_class, row[at], Plan, *row)

    def test_too_many_fillings(self):
        for blocks, contents in [(15, 2), (16, 2), (10, 3), (8, 4), (7, 5), (6, 6), (6, 7), (3, 28), (3, 64), (16, 64), (4, 12), (16, 3)]:
            for behind in ([1, [], [], []], [None] * 4, [0, [0] * 10, [0], [[[]]]]):
                self.check_count(TooMany, contents ** blocks, Plan, blocks, contents, *behind)
        self.check_given(InvalidContents, 65, Plan, 16, 65, 1, [], [], [])

    def test_just_20_writes(self):
        row = example()
        row[5][0][1] = [(1, 0), (0, 1)] * 10
        self.assertEqual(len(Plan(*row).paths[0][1]), 20)
        row[5][0][1] = [(1, 0), (0, 1)] * 10 + [(0, 1)]
        self.check_given(InvalidPaths, row[5], Plan, *row)

    def test_tuples_in_the_place_of_writes_alone(self):
        row = example()
        row[5][2][1] = [[1, 0]]
        self.check_given(InvalidPaths, row[5], Plan, *row)


class Breaks(Checks, unittest.TestCase):
    def plans(self):
        chance = random.Random(172)
        rows = [*right_plans()[:-3], *[drawn(chance) for _ in range(150)]]
        rows += [mended(row, chance) for row in rows[-60:]]
        return [row for row in rows if row[0] < 3 or row[1] < 8]

    def test_lines(self):
        for row in self.plans()[::5]:
            plan, (blocks, contents) = Plan(*row), row[:2]
            fillings = list(itertools.product(range(contents), repeat=blocks))
            lines = set()
            for number, block in itertools.product(range(len(fillings)), range(blocks)):
                wanted = [at for at, filling in enumerate(fillings)
                          if filling[:block] + filling[block + 1:] == fillings[number][:block] + fillings[number][block + 1:]]
                self.check_same(wanted, line_of(plan, number, block))
                lines.add((block, tuple(wanted)))
            self.check_same(len(lines), line_count(plan))

    def test_wrong_lines(self):
        plan = Plan(*example())
        for number in [-1, 4, 5, HUGE, *no_integers()]:
            for block in (0, 1, 2, None):
                self.check_given(InvalidNumber, number, line_of, plan, number, block)
        for block in [-1, 2, 3, HUGE, *no_integers()]:
            for number in (0, 3):
                self.check_given(InvalidBlock, block, line_of, plan, number, block)
        found = self.check_new_lists(line_of, plan, 1, 0)
        found.append(9)
        self.assertEqual(line_of(plan, 1, 0), [1, 3])

    def test_all_breaks(self):
        seen = {"torn": 0, "end": 0, "none": 0}
        for row in self.plans():
            plan, own = Plan(*row), OwnPlan(*row)
            first = own.first_break()
            self.check_same(first, first_break(plan))
            seen["none" if first is None else "end" if first[2] == len(row[5][first[0]][first[1]]) else "torn"] += 1
            if len(own.fillings) < 130:
                for value in own.all_values(2):
                    self.assertIs(is_break(plan, value), own.is_break(value), (row, value))
        self.assertGreater(min(seen.values()), 5)

    def test_any_values(self):
        worse = Plan(1, 3, 3, [0, 1, 2], [0, 1, 2], [[[], [(0, 1)], [(0, 2)]], [[(0, 0)], [], [(0, 2)]], [[(0, 0)], [(0, 1)], []]])
        self.assertIs(is_break(worse, (0, 1, 0, 2)), True)
        for value in [*no_tuples(), (), (0, 1, 0), (0, 1, 0, 2, 0), [0, 1, 0, 2], ((0, 1, 0, 2),), (0, 1, 0, HUGE), (0, 1, HUGE, 2), (HUGE, 1, 0, 2)]:
            self.assertIs(is_break(worse, value), False)
        for at, item in itertools.product(range(4), [-1, *no_integers()]):
            row = [0, 1, 0, 2]
            row[at] = item
            self.assertIs(is_break(worse, tuple(row)), False)
        # A path of no writes from a value to another one breaks at its end, with the content 0 alone.
        plan = Plan(1, 2, 2, [0, 1], [0, 1], [[[], []], [[(0, 0)], []]])
        self.check_same((0, 1, 0, 0), first_break(plan))
        self.assertEqual([is_break(plan, (0, 1, 0, content)) for content in (0, 1, False, None, 2)], [True, False, False, False, False])
        self.assertIs(is_break(plan, (False, True, 0, 0)), False)

    def test_a_value_to_itself_is_no_break(self):
        for row in self.plans()[:60]:
            plan = Plan(*row)
            for value in range(row[2]):
                for content in range(row[1]):
                    self.assertIs(is_break(plan, (value, value, 0, content)), False)


class Turnings(Checks, unittest.TestCase):
    def test_all_pairs_of_plans_without_a_break(self):
        for row in right_plans():
            plan, own = Plan(*row), OwnPlan(*row)
            self.assertIsNone(first_break(plan))
            lines = {}
            for old, new in itertools.permutations(range(row[2]), 2):
                if row[1] == 16 and (old + new) % 5:
                    continue
                found = turning(plan, old, new)
                self.check_same(own.turning(old, new), found)
                line = line_of(plan, *found)
                self.assertEqual(line[0], found[0])
                self.assertEqual({row[3][number] for number in line}, {old, new})
                lines.setdefault(frozenset((old, new)), set()).add(found)
            for one, other in itertools.combinations(lines.values(), 2):
                self.assertFalse(one & other)
            self.assertLessEqual(row[2] * (row[2] - 1) // 2, line_count(plan))

    def test_the_new_value_is_told_and_is_told_no_more(self):
        # The first write behind which the new value is told counts, whatever comes behind it.
        row = [2, 3, 2, [0, 0, 1, 0, 0, 0, 1, 0, 1], [0, 8], [[[], [(1, 2), (1, 0), (0, 2), (1, 2)]], [[(1, 0), (0, 0)], []]]]
        plan, own = Plan(*row), OwnPlan(*row)
        self.assertIsNone(first_break(plan))
        self.check_same((0, 1), turning(plan, 0, 1))
        for old, new in ((0, 1), (1, 0)):
            self.check_same(own.turning(old, new), turning(plan, old, new))

    def test_wrong_values_and_broken_plans(self):
        chance, broken = random.Random(173), 0
        for row in [example(), *[drawn(chance) for _ in range(60)]]:
            plan, own = Plan(*row), OwnPlan(*row)
            kept, first = row[2], own.first_break()
            for value in [-1, kept, kept + 1, HUGE, *no_integers()]:
                self.check_given(InvalidValue, value, turning, plan, value, 0)
                self.check_given(InvalidValue, value, turning, plan, value, value)
                self.check_given(InvalidValue, value, turning, plan, kept - 1, value)
            for old in range(kept):
                self.check_given(InvalidValue, old, turning, plan, old, old)
                for new in range(kept):
                    if new != old and first is not None:
                        broken += 1
                        error = caught(turning, plan, old, new)
                        self.assertIs(type(error), Broken)
                        self.check_same(first, error.value)
        self.assertGreater(broken, 50)

    def test_each_plan_with_more_pairs_than_lines_breaks(self):
        chance = random.Random(174)
        for blocks, contents, kept in [(1, 3, 3), (1, 5, 4), (1, 16, 16), (2, 2, 4), (2, 3, 5), (2, 7, 10), (2, 4, 6), (2, 13, 16)]:
            count = contents ** blocks
            self.assertGreater(kept * (kept - 1) // 2 - blocks * contents ** (blocks - 1), -1)
            for _ in range(40):
                entries = [chance.randrange(kept) for _ in range(count)]
                rests = chance.sample(range(count), min(kept, count))
                for value, number in enumerate(rests):
                    entries[number] = value
                row = mended([blocks, contents, kept, entries, rests, None], chance)
                plan = Plan(*row)
                if kept * (kept - 1) // 2 > line_count(plan):
                    self.assertIsNotNone(first_break(plan))


if __name__ == "__main__":
    unittest.main()
