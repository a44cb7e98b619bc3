"""[61], [62], [63], [64]: views of heads, held against all views that a change can leave on small arrays."""

import itertools
import unittest

from checks import Checks, Plain, Touchy, no_lists
from reckoning import Own, subsets
from sparesum.arrays import Array
from sparesum.errors import InvalidLot, InvalidView, TooFew
from sparesum.heads import can_be_left, is_view, mending, told
from sparesum.lots import head_word, lot_at

# All their views are gone through: at most 7 ** 4 of them.
TINY = [(1, 0, 1, 1, 2), (2, 1, 1, 1, 2), (1, 0, 2, 1, 3), (3, 2, 2, 2, 3), (3, 1, 2, 2, 5), (2, 1, 3, 1, 5), (1, 0, 9, 1, 5),
        (4, 1, 3, 2, 7), (2, 0, 6, 2, 7)]

# All views that a change leaves are gone through.
SMALL = TINY + [(4, 1, 6, 3, 13), (3, 2, 4, 2, 7), (4, 0, 7, 3, 7), (2, 1, 6, 2, 11), (2, 0, 8, 4, 11)]


def all_views(own):
    for contents in itertools.product([None, *range(own.q)], repeat=own.H):
        yield [(head, content) for head, content in enumerate(contents) if content is not None]


def with_writes(view, writes):
    after = dict(view)
    after.update(writes)
    return sorted(after.items())


def left_views(own, number):
    """All views, each once, that setting or clearing the heads of the lot leaves, cut at any moment, of any heads."""
    word = own.word_of_number(number)
    found = {}
    for t, content in itertools.product(range(own.H), range(own.q)):
        whole = [*enumerate(word)][:t] + [(t, content)] + [(head, 0) for head in range(t + 1, own.H)]
        for view in subsets(whole):
            found[tuple(view)] = view
    return list(found.values())


def some_numbers(own):
    return sorted({0, 1, own.lots // 2, own.lots - 1} & set(range(own.lots)))


class Views(Checks, unittest.TestCase):
    def test_examples(self):
        array, other = Array(4, 1, 6, 3, 13), Array(3, 1, 2, 2, 5)
        torn, cleared = [(0, 2), (1, 5), (2, 12), (3, 0)], [(0, 2), (2, 12), (3, 0)]
        self.assertEqual([told(array, torn), told(array, cleared)], [[1, 3, 5], None])
        self.assertEqual([mending(array, torn), mending(array, cleared)], [[(2, 8), (3, 11)], [(2, 0), (0, 0)]])
        self.assertIs(can_be_left(array, cleared, [1, 3, 5]), True)
        self.assertIs(can_be_left(array, [(0, 3), (1, 5), (2, 8)], [1, 3, 5]), False)
        self.assertEqual([told(other, [(1, 4)]), told(other, [(0, 0), (1, 1)]), is_view(array, [])], [[0, 1], None, True])
        self.check_count(TooFew, 2, told, array, [(0, 2), (3, 0)])

    def test_arrays_of_these_tests(self):
        self.assertEqual(sorted({Own(*numbers).j for numbers in TINY}), [0, 1, 2])
        self.assertEqual(sorted({Own(*numbers).j for numbers in SMALL}), [0, 1, 2, 3])

    def test_views_of_any_heads(self):
        for numbers in TINY:
            array, own = Array(*numbers), Own(*numbers)
            for view in all_views(own):
                self.assertIs(is_view(array, view), True)
                self.assertIs(is_view(array, tuple(view)), True)
                if len(view) > 1:
                    self.assertIs(is_view(array, view[::-1]), False)
                    self.assertIs(is_view(array, view + view[-1:]), False)

    def wrong_views(self, own):
        right = [(head, 0) for head in range(own.H)]
        wrong = [None, True, 1, "", "11", [1, 1], [], (), (1,), (1, 1, 1), (-1, 1), (0, -1), (own.H, 1), (0, own.q), (own.H, 0),
                 (own.H + 1, 1), (0, own.q + 1), (10 ** 59, 1), (0, 10 ** 59), (True, 1), (0, True), (False, 0), (0, False),
                 (None, 1), (0, None), ("0", 1), (0, "1"), ((0,), 1), (0, (1,)), {"a": 1}, Plain(), Touchy(), [0, 0]]
        for at in range(own.H + 1):
            for item in wrong:
                yield right[:at] + [item] + right[at:]
                yield right[:at] + [item] + right[at + 1:]
        yield from ([item] for item in wrong)
        yield from [right + right[-1:], right[::-1] * 2, [(0, 0), (0, 1)], [(0, 1), (0, 0)], right + [(own.H, 0)]]

    def test_wrong_views(self):
        for numbers in [(1, 0, 1, 1, 2), (3, 1, 2, 2, 5), (4, 1, 3, 2, 7), (4, 1, 6, 3, 13), (6, 2, 24, 12, 41)]:
            array, own = Array(*numbers), Own(*numbers)
            lot = lot_at(array, 0)
            for view in [*no_lists(), *self.wrong_views(own)]:
                for whole in [view, tuple(view)] if isinstance(view, list) else [view]:
                    self.assertIs(is_view(array, whole), False)
                    self.check_given(InvalidView, whole, told, array, whole)
                    self.check_given(InvalidView, whole, mending, array, whole)
                    self.check_given(InvalidView, whole, can_be_left, array, whole, lot)
                    self.check_given(InvalidView, whole, can_be_left, array, whole, None)

    def test_values_that_are_no_views(self):
        endless = []
        endless.append(endless)
        for value in [endless, [endless], ([0, 0],), {0: 0}, {0}, range(0), object(), "", b"", [[(0, 0)]], ((0, 0), [1, 0])]:
            self.assertIs(is_view(Array(2, 1, 3, 1, 5), value), False)

    def test_wrong_lots(self):
        for numbers in [(3, 1, 2, 2, 5), (4, 1, 6, 3, 13), (1, 0, 24, 12, 997)]:
            array, own = Array(*numbers), Own(*numbers)
            lot = list(range(own.k))
            wrong = [*no_lists(), [], lot[:-1], lot + [own.m - 1], lot[::-1], [lot[0]] * own.k, lot[:-1] + [own.m],
                     [-1] + lot[1:], [False] + lot[1:], [None] + lot[1:], lot[:-1] + [str(lot[-1])], [lot]]
            for value in wrong:
                for view in [[], [(0, 0)], [(0, 1)], [(head, 1) for head in range(own.H)]]:
                    self.check_given(InvalidLot, value, can_be_left, array, view, value)
                view = [(own.H, 0)]
                self.check_given(InvalidView, view, can_be_left, array, view, value)


class Telling(Checks, unittest.TestCase):
    def test_all_views(self):
        for numbers in TINY:
            array, own = Array(*numbers), Own(*numbers)
            lots = own.all_lots()
            for view in all_views(own):
                if len(view) < own.j + 1:
                    self.check_count(TooFew, len(view), told, array, view)
                    self.check_count(TooFew, len(view), mending, array, tuple(view))
                else:
                    number = own.told_number(view)
                    self.check_same(None if number is None else lots[number], told(array, view))
                    self.check_same(own.mending(view), mending(array, view))

    def test_too_few_with_a_wrong_view(self):
        array = Array(4, 1, 6, 3, 13)
        for view in [[(0, 13)], [(1, 0), (0, 0)], [(4, 1)]]:
            self.check_given(InvalidView, view, told, array, view)
            self.check_given(InvalidView, view, mending, array, view)
        for numbers in SMALL:
            array, own = Array(*numbers), Own(*numbers)
            for count in range(own.j + 1):
                for content in (0, 1):
                    view = [(head, content) for head in range(own.H - count, own.H)]
                    self.check_count(TooFew, count, told, array, view)
                    self.check_count(TooFew, count, mending, array, view)

    def test_a_0_at_each_spot(self):
        for numbers in SMALL + [(6, 2, 24, 12, 41), (12, 11, 24, 24, 13)]:
            array, own = Array(*numbers), Own(*numbers)
            for number in some_numbers(own):
                whole = list(enumerate(own.word_of_number(number)))
                for heads in [whole, whole[::-1][:own.j + 1][::-1], whole[1:], whole[:own.j] + whole[-1:]]:
                    for at in range(len(heads)):
                        view = heads[:at] + [(heads[at][0], 0)] + heads[at + 1:]
                        if len(view) > own.j:
                            wanted = None if at <= own.j else lot_at(array, number)
                            self.check_same(wanted, told(array, view))

    def test_just_the_first_heads_tell(self):
        array, own = Array(3, 1, 6, 3, 11), Own(3, 1, 6, 3, 11)
        self.assertEqual([own.j, own.H], [2, 5])
        right = own.word_of_number(7)
        for torn in range(1, own.q):
            for behind in itertools.product([0, 1, right[3], 10], [0, 5, right[4]]):
                view = [(0, right[0]), (1, right[1]), (2, torn), (3, behind[0]), (4, behind[1])]
                self.check_same(own.all_lots()[7], told(array, view))

    def test_great_arrays(self):
        for numbers in [(1, 0, 24, 12, 997), (12, 5, 24, 12, 97), (6, 2, 24, 12, 41)]:
            array, own = Array(*numbers), Own(*numbers)
            for number in [0, own.p, own.lots // 2, own.lots - 1]:
                lot, whole = lot_at(array, number), list(enumerate(own.word_of_number(number)))
                self.assertEqual([told(array, whole), mending(array, whole)], [lot, []])
                self.assertIs(can_be_left(array, whole, lot), True)
                torn = whole[:own.j] + [(own.j, own.q - 1)] + [(head, 0) for head in range(own.j + 1, own.H)]
                self.assertEqual([told(array, torn), can_be_left(array, torn, lot)], [lot, True])
                self.check_same(own.mending(torn), mending(array, torn))
                self.assertEqual(with_writes(torn, mending(array, torn)), whole)


class LeftViews(Checks, unittest.TestCase):
    def test_all_views_against_all_lots(self):
        for numbers in TINY:
            array, own = Array(*numbers), Own(*numbers)
            lots = own.all_lots()
            for view in all_views(own):
                for number in some_numbers(own):
                    self.assertIs(can_be_left(array, view, lots[number]), own.can_be_left(view, number))
                    self.assertIs(can_be_left(array, tuple(view), tuple(lots[number])), own.can_be_left(view, number))

    def test_views_that_a_change_leaves(self):
        for numbers in SMALL:
            array, own = Array(*numbers), Own(*numbers)
            for number in some_numbers(own):
                lot = lot_at(array, number)
                for view in left_views(own, number):
                    self.check_left(array, own, view, number, lot)

    def check_left(self, array, own, view, number, lot):
        self.assertIs(can_be_left(array, view, lot), True)
        if len(view) < own.j + 1:
            self.check_count(TooFew, len(view), told, array, view)
            self.check_count(TooFew, len(view), mending, array, view)
            return
        found, writes = told(array, view), mending(array, view)
        self.assertIn(found, (lot, None))
        self.check_same(own.mending(view), writes)
        for count, (head, _) in enumerate(writes):
            for content in range(own.q):
                cut = with_writes(view, [*writes[:count], (head, content)])
                self.assertIs(can_be_left(array, cut, lot), True)
                self.assertIn(told(array, cut), (lot, None))
        self.check_mended(array, own, with_writes(view, writes), number, found)

    def check_mended(self, array, own, view, number, found):
        word = own.word_of_number(number)
        self.assertEqual(view, [(head, 0 if found is None else word[head]) for head, _ in view])
        self.assertEqual(told(array, view), found)
        self.assertEqual(mending(array, view), [])
        for some in itertools.combinations(view, own.j + 1):
            self.assertEqual(told(array, some), found)

    def test_other_lots(self):
        for numbers in SMALL:
            array, own = Array(*numbers), Own(*numbers)
            lots = own.all_lots()
            for number, other in itertools.product(some_numbers(own), repeat=2):
                found = {}
                for view in left_views(own, number):
                    wanted = own.can_be_left(view, other)
                    self.assertIs(can_be_left(array, view, lots[other]), wanted)
                    found[wanted] = True
                    if wanted and number != other and len(view) > own.j:
                        self.assertIsNone(told(array, view))
                self.assertEqual(sorted(found), [True] if number == other else [False, True])

    def test_mending_cut_twice(self):
        for numbers in [(3, 1, 2, 2, 5), (2, 1, 3, 1, 5), (2, 0, 6, 2, 7)]:
            array, own = Array(*numbers), Own(*numbers)
            lot = lot_at(array, own.lots - 1)
            start = [view for view in left_views(own, own.lots - 1) if len(view) > own.j]
            reached = {tuple(view) for view in start}
            waiting = list(reached)
            while waiting:
                view = waiting.pop()
                writes = mending(array, view)
                for count, (head, _) in enumerate(writes):
                    for content in range(own.q):
                        cut = tuple(with_writes(view, [*writes[:count], (head, content)]))
                        self.assertIs(can_be_left(array, cut, lot), True)
                        if cut not in reached:
                            reached.add(cut)
                            waiting.append(cut)

    def test_right_heads_are_never_written(self):
        for numbers in SMALL:
            array, own = Array(*numbers), Own(*numbers)
            whole = list(enumerate(head_word(array, lot_at(array, 0))))
            none = [(head, 0) for head in range(own.H)]
            for heads in subsets(range(own.H)):
                if len(heads) > own.j:
                    self.assertEqual(mending(array, [whole[head] for head in heads]), [])
                    self.assertEqual(mending(array, [none[head] for head in heads]), [])

    def test_results_are_new_lists(self):
        array = Array(4, 1, 6, 3, 13)
        for function, view in [(told, [(0, 2), (1, 5), (2, 12), (3, 0)]), (mending, [(0, 2), (1, 5), (2, 12), (3, 0)]),
                               (mending, [(0, 2), (2, 12), (3, 0)]), (mending, [(0, 0), (1, 0), (2, 0)])]:
            self.check_new_lists(function, array, view).append((9, 9))
            self.assertNotIn((9, 9), function(array, view))


if __name__ == "__main__":
    unittest.main()
