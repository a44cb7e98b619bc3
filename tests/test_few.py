"""[161] to [163]: two and three values on the fewest disks, held against the test's own walks."""

import itertools
import random
import unittest

from checks import Checks, caught, no_integers, no_lists
from reckoning import subsets
from sparesum.errors import InvalidValue, InvalidView, TooFew
from sparesum.few import (three_can_be_left, three_mending, three_steps, three_told, two_mending, two_steps, two_told)

HUGE = 10 ** 59
TWO = (two_told, two_mending)
THREE = (three_can_be_left, three_told, three_mending)


def views(least=1, most=5, contents=range(5)):
    for length in range(least, most + 1):
        yield from (list(view) for view in itertools.product(contents, repeat=length))


def great_views(chance, count, items):
    for _ in range(count):
        yield [chance.choice(items) for _ in range(chance.choice([1, 2, 3, 4, 7, 30, 63, 64]))]


def wrong_views():
    yield from [*no_lists(), [], (), [0] * 65, (1,) * 65, [1] * 66, [[0, 1]], [(0, 1)], "01", {0: 1}]
    for item in [-1, 997, 998, HUGE, *no_integers()]:
        for view in ([item], [item, 0], [0, item], [1, 1, item], [item] * 64, (0, item)):
            yield view


def parts(view):
    """The parts of a view that are not empty."""
    return [part for part in subsets(view) if part]


def torn(view, writes, most):
    """The views when the first of these writes are done and the next one leaves any content up to most."""
    now = list(view)
    for index, content in writes:
        for item in range(most + 1):
            yield now[:index] + [item] + now[index + 1:]
        now[index] = content


def done(view, writes):
    now = list(view)
    for index, content in writes:
        now[index] = content
    return now


def own_two_told(view):
    return int(sum(item != 0 for item in view) * 2 > len(view))


def own_left_from(view):
    """The values u with which, and some index, the view can be told [162]."""
    return [u for u in range(3) if any(all(item == (u + 1) % 3 for item in view[:t]) and all(item == u for item in view[t + 1:])
                                       for t in range(len(view)))]


def own_three(view):
    """The value told and the writes ahead of it [163], of a view that can be left."""
    if len(set(view)) == 1:
        return view[0], []
    if len(view) == 2:
        x, y = view
        for item, other, index in ((x, y, 0), (y, x, 1)):
            if item not in (0, 1, 2):
                return other, [(index, other)]
        if x == (y + 1) % 3:
            return x, [(1, x)]
        return 3 - x - y, []
    value = (own_left_from(view)[0] + 1) % 3
    return value, [(index, value) for index, item in enumerate(view) if item != value]


class Two(Checks, unittest.TestCase):
    def test_examples(self):
        self.check_same([1, [(0, 1)], 0, [(0, 0)], [(0, 1), (1, 1)]],
                        [two_told([0, 7, 1]), two_mending([0, 7, 1]), two_told([7, 0]), two_mending([7, 0]), two_steps([0, 0], 1)])

    def check_view(self, view):
        told = own_two_told(view)
        self.check_same(told, two_told(view))
        self.check_same(told, two_told(tuple(view)))
        wanted = [(index, told) for index, item in enumerate(view) if (item == 0) == (told == 1)]
        self.check_same(wanted, two_mending(view))
        self.check_same(wanted, two_mending(tuple(view)))
        for value in (0, 1):
            wanted = [(index, value) for index, item in enumerate(view) if min(item, 1) != value]
            self.check_same(wanted, two_steps(view, value))
            self.check_same(wanted, two_steps(tuple(view), value))

    def test_all_small_views(self):
        for view in views():
            self.check_view(view)

    def test_greater_views(self):
        for view in great_views(random.Random(161), 200, [0, 0, 1, 2, 500, 996]):
            self.check_view(view)
        for view in ([0] * 64, [996] * 64, [0] * 32 + [1] * 32, [0] * 31 + [1] * 33, [0] * 63 + [1]):
            self.check_view(view)

    def test_cut_mendings_and_parts(self):
        for view in views(most=5, contents=(0, 1, 3)):
            told, writes = two_told(view), two_mending(view)
            self.assertLessEqual(len(writes), len(view) // 2)
            for left in torn(view, writes, 4):
                self.assertEqual(two_told(left), told)
            for part in parts(done(view, writes)):
                self.assertEqual(two_told(part), told)
            for value in (0, 1):
                for part in parts(done(view, two_steps(view, value))):
                    self.assertEqual(two_told(part), value)

    def test_a_cut_change_tells_the_old_or_the_new_one_and_stays(self):
        for length in range(1, 6):
            for old in (0, 1):
                view = [old] * length
                for left in torn(view, two_steps(view, 1 - old), 2):
                    for part in parts(left):
                        told = two_told(part)
                        for again in torn(part, two_mending(part), 2):
                            self.assertEqual(two_told(again), told)

    def test_wrong_arguments(self):
        for view in wrong_views():
            for function in TWO:
                self.check_given(InvalidView, view, function, view)
            for value in (0, 1, 2, None):
                self.check_given(InvalidView, view, two_steps, view, value)
        for value in [-1, 2, 3, HUGE, *no_integers()]:
            for view in ([0], [1, 0], (996,) * 64):
                self.check_given(InvalidValue, value, two_steps, view, value)

    def test_told_lists_are_new(self):
        for found in (self.check_new_lists(two_mending, [0, 7, 1]), self.check_new_lists(two_steps, [0, 0], 1)):
            found.append(9)


class Three(Checks, unittest.TestCase):
    def test_examples(self):
        self.check_same([[(0, 2), (1, 2), (2, 2)], [(2, 1), (1, 1), (0, 1)], [(1, 0)], []],
                        [three_steps([1, 1, 1], 2), three_steps([2, 2, 2], 1), three_steps([0, 1], 0), three_steps([0, 0], 0)])
        self.check_same([2, [(1, 2), (2, 2), (3, 2)], False],
                        [three_told([2, 5, 1, 1]), three_mending([2, 5, 1, 1]), three_can_be_left([2, 0, 1, 1, 0])])
        self.check_same([0, [(1, 0)], 0, [], 2, [(0, 2)]], [three_told([0, 2]), three_mending([0, 2]), three_told([1, 2]), three_mending([1, 2]),
                                                            three_told([9, 2]), three_mending([9, 2])])
        self.check_count(TooFew, 1, three_told, [1])

    def check_view(self, view):
        can = len(own_left_from(view)) > 0
        self.assertIs(three_can_be_left(view), can)
        self.assertIs(three_can_be_left(tuple(view)), can)
        if not can:
            for form in (view, tuple(view)):
                for function in (three_told, three_mending):
                    self.check_given(InvalidView, form, function, form)
                for new in (0, 1, 2, 3, None):
                    self.check_given(InvalidView, form, three_steps, form, new)
            return
        told, writes = own_three(view)
        for form in (view, tuple(view)):
            self.check_same(told, three_told(form))
            self.check_same(writes, three_mending(form))
            self.check_steps(form, told, writes)

    def check_steps(self, view, told, writes):
        for new in (0, 1, 2):
            if writes:
                self.check_given(InvalidView, view, three_steps, view, new)
                continue
            wanted = [(index, new) for index, item in enumerate(view) if item != new]
            wanted = [] if new == told else wanted if new == (told + 1) % 3 else wanted[::-1]
            self.check_same(wanted, three_steps(view, new))
        for new in [-1, 3, 4, HUGE, *no_integers()]:
            self.check_given(*[InvalidView, view] if writes else [InvalidValue, new], three_steps, view, new)

    def test_all_small_views(self):
        seen = {True: 0, False: 0}
        for view in views(least=2):
            self.check_view(view)
            seen[three_can_be_left(view)] += 1
            if three_can_be_left(view) and len(view) > 2 and len(set(view)) > 1:
                self.assertEqual(len(own_left_from(view)), 1)
        self.assertGreater(min(seen.values()), 100)

    def test_greater_views(self):
        chance = random.Random(162)
        for _ in range(300):
            length, u = chance.choice([2, 3, 4, 9, 63, 64]), chance.randrange(3)
            t = chance.randrange(length)
            view = [(u + 1) % 3] * t + [chance.choice([0, 1, 2, 3, 996])] + [u] * (length - t - 1)
            self.check_view(view)
            view[chance.randrange(length)] = chance.choice([0, 1, 2, 3, 995])
            self.check_view(view)

    def test_views_of_length_1(self):
        for item in (0, 1, 2, 3, 996):
            for view in ([item], (item,)):
                for function in THREE:
                    self.check_count(TooFew, 1, function, view)
                for new in (0, 2, 3, None):
                    self.check_count(TooFew, 1, three_steps, view, new)

    def test_wrong_views(self):
        for view in wrong_views():
            for function in THREE:
                self.check_given(InvalidView, view, function, view)
            for new in (0, 3, None):
                self.check_given(InvalidView, view, three_steps, view, new)

    def test_all_alike_but_no_value(self):
        for item in (3, 4, 996):
            for length in (2, 3, 64):
                view = [item] * length
                self.assertIs(three_can_be_left(view), False)
                for function in (three_told, three_mending):
                    self.check_given(InvalidView, view, function, view)
                self.check_given(InvalidView, view, three_steps, view, None)

    def changes(self):
        """Views that cuts of changes leave from rests, of whole arrays and of some disks, with the two values."""
        for length in range(2, 6):
            for old in range(3):
                for new in range(3):
                    view = [old] * length
                    for left in [view, *torn(view, three_steps(view, new), 4), done(view, three_steps(view, new))]:
                        yield left, (old, new)

    def test_what_a_cut_leaves_tells_one_of_the_two_and_stays(self):
        waiting = [(part, values) for left, values in self.changes() for part in subsets(left) if len(part) > 1]
        reached = {}
        while waiting:
            view, values = waiting.pop()
            if (tuple(view), values) not in reached:
                reached[tuple(view), values] = True
                waiting.extend((part, values) for part in self.opened(view, values))
        self.assertGreater(len(reached), 300)

    def opened(self, view, values):
        """All that cuts of the mending and losses leave; one of the two values is told, by the same u."""
        told, writes = three_told(view), three_mending(view)
        self.assertIn(told, values)
        after = done(view, writes)
        self.assertEqual([three_told(after), three_mending(after)], [told, []])
        origins = own_left_from(view)
        for left in [after, *torn(view, writes, 3)]:
            for part in subsets(left):
                if len(part) > 1:
                    self.assertTrue([u for u in own_left_from(part) if u in origins])
                    yield part

    def test_a_change_behind_an_opening(self):
        # An opened view is at rest, or it is [x, next of x] of the third value: each change from it can be cut, too.
        for view in [*views(least=2, most=4, contents=range(3))]:
            if three_can_be_left(view) and not three_mending(view):
                told = three_told(view)
                for new in range(3):
                    steps = three_steps(view, new)
                    self.assertEqual(done(view, steps), view if new == told else [new] * len(view))
                    for left in torn(view, steps, 4):
                        self.assertIn(three_told(left), (told, new))

    def test_told_lists_are_new(self):
        for found in (self.check_new_lists(three_mending, [2, 5, 1, 1]), self.check_new_lists(three_steps, [1, 1, 1], 2),
                      self.check_new_lists(three_steps, [0, 0], 0)):
            found.append(9)
        self.assertEqual(three_steps([0, 0], 0), [])
        self.assertIsNone(caught(three_told, [0, 0]))


if __name__ == "__main__":
    unittest.main()
