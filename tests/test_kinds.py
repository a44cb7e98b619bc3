"""[151] to [156]: kinds of heads, held against the test's own explanations."""

import itertools
import random
import unittest

from checks import Checks, Plain, Touchy, caught, no_integers, no_lists, no_tuples
from reckoning import PRIMES, at_place, data_of, fits_a_word, subsets
from sparesum.errors import (InvalidKind, InvalidLength, InvalidNumber, InvalidPending, InvalidPlace, InvalidPrime,
                             InvalidSymbols, InvalidValue, InvalidView, TooFew)
from sparesum.kinds import (Kind, clash, content, contents, explains, is_clash, is_rest, needed, settling, tell)

NAMES = ("star", "bit", "plain")
HUGE = 10 ** 59

# All that changes of these leave is gone through.
TINY = [("star", 2, 1, 1), ("star", 3, 1, 1), ("star", 3, 1, 2), ("star", 3, 2, 1), ("bit", 3, 1, 1), ("plain", 3, 1, 1)]

# So is all that changes between some rests of these leave, of some of their places.
SMALL = [("star", 5, 2, 2), ("star", 5, 1, 3), ("star", 5, 3, 2), ("bit", 5, 1, 1), ("bit", 5, 1, 2), ("bit", 5, 2, 1), ("bit", 7, 2, 2),
         ("bit", 7, 1, 3), ("plain", 5, 1, 1), ("plain", 5, 1, 2), ("plain", 7, 2, 1), ("plain", 7, 1, 3), ("plain", 11, 2, 2), ("plain", 11, 3, 1)]


class OwnKind:
    """A kind by the words of [151] to [154] and [156]."""

    def __init__(self, name, p, j, e):
        self.name, self.p, self.j, self.e = name, p, j, e
        self.needed = {"star": j + e, "bit": 2 * j + 2 * e - 1, "plain": 3 * j + 2 * e - 2}[name]
        self.q = {"star": p + 1, "bit": 2 * p, "plain": p}[name]

    def all_data(self):
        return list(itertools.product(range(self.p), repeat=self.j))

    def rests(self):
        if self.name == "bit":
            return [(bit, data) for bit in (0, 1) for data in self.all_data()]
        return ([None] if self.name == "star" else []) + self.all_data()

    def data(self, rest):
        return rest[1] if self.name == "bit" else rest

    def content(self, rest, place):
        if rest is None:
            return 0
        symbol = at_place(self.p, self.data(rest), place)
        return {"star": symbol + 1, "bit": symbol + (self.p if self.name == "bit" and rest[0] else 0), "plain": symbol}[self.name]

    def is_change(self, new, old):
        if self.name == "star":
            return new is not None and old is None
        return self.name == "plain" or new[0] != old[0]

    def explains(self, view, new, old, at):
        row_new, row_old = ([self.content(rest, place) for place, _ in view] for rest in (new, old))
        row = [item for _, item in view]
        if new == old:
            return row == row_new
        return row[:at] == row_new[:at] and row[at + self.e:] == row_old[at + self.e:]

    def some_explains(self, view, new, old):
        return any(self.explains(view, new, old, at) for at in range(len(view) + 1))

    def view(self, rest, places):
        return [(place, self.content(rest, place)) for place in places]

    def left(self, new, old, places):
        """All views of these places that a cut of a change leaves."""
        rows_new, rows_old = self.view(new, places), self.view(old, places)
        if new == old:
            yield rows_new
            return
        for at in range(len(places) + 1):
            torn = places[at:at + self.e]
            for items in itertools.product(range(self.q), repeat=len(torn)):
                yield rows_new[:at] + list(zip(torn, items)) + rows_old[at + self.e:]

    def told(self, view):
        """The rest that is told, and the way in which groups go: 1 on, -1 back."""
        j, e, r = self.j, self.e, len(view)
        if self.name == "star":
            if any(item == 0 for _, item in view[:j + e]):
                return None, -1
            return data_of(self.p, [(place, item - 1) for place, item in view[:j]]), 1
        if self.name == "bit":
            bits, rows = [item >= self.p for _, item in view], [(place, item % self.p) for place, item in view]
            if len(set(bits)) == 1:
                return (int(bits[e]), data_of(self.p, rows[e:e + j])), 1
            if len(set(bits[-j - e:])) == 1:
                return (int(bits[-j]), data_of(self.p, rows[-j:])), -1
            return (int(bits[0]), data_of(self.p, rows[:j])), 1
        if fits_a_word(self.p, view[:r - j - e + 1], j):
            return data_of(self.p, view[:j]), 1
        return data_of(self.p, view[-j:]), -1

    def settling(self, view):
        rest, way = self.told(view)
        rows, groups = [(place, item, self.content(rest, place)) for place, item in view][::way], []
        differing = [at for at, (_, item, right) in enumerate(rows) if item != right]
        while differing:
            begin = differing[0]
            some = [at for at in differing if at < begin + self.e]
            groups.append([(rows[at][0], rows[at][2]) for at in some])
            differing = differing[len(some):]
        return groups

    def is_data(self, value):
        return type(value) is tuple and len(value) == self.j and all(type(item) is int and 0 <= item < self.p for item in value)


def pair(numbers):
    return Kind(*numbers), OwnKind(*numbers)


def frozen(value):
    return tuple(map(frozen, value)) if isinstance(value, (list, tuple)) else value


class Kinds(Checks, unittest.TestCase):
    def test_examples(self):
        star, bit, plain = Kind("star", 5, 2, 1), Kind("bit", 5, 1, 1), Kind("plain", 5, 1, 1)
        self.check_same([3, 3, 3, 6, 10, 5], [*map(needed, (star, bit, plain)), *map(contents, (star, bit, plain))])
        self.check_same([3, 0, 9, False], [content(star, (1, 3), 2), content(star, None, 2), content(bit, (1, (4,)), 0), is_rest(plain, (5,))])
        self.check_same([(1, 3), None, (4,)], [tell(star, [(0, 2), (2, 3), (3, 5)]), tell(star, [(0, 2), (2, 3), (3, 0)]),
                                               tell(plain, [(0, 2), (1, 4), (2, 4)])])
        self.check_same([(1,), (2,), (4,)], [tell(bit, [(0, 7), (1, 3), (2, 1)]), tell(bit, [(0, 7), (1, 5), (3, 1)]),
                                             tell(bit, [(0, 2), (1, 4), (2, 1)])])
        self.check_same([True, False], [explains(plain, [(0, 2), (1, 4), (2, 4)], (2,), (4,), at) for at in (1, 2)])
        self.check_same([True, True], [is_clash(plain, clash(plain)), is_clash(plain, ([(0, 1), (1, 2)], ((0,), (2,), 0), ((1,), (3,), 1)))])
        self.check_same([[[(2, 0)], [(0, 0)]], [[(3, 1)]], [[(1, 1)], [(0, 1)]]],
                        [settling(star, [(0, 2), (2, 3), (3, 0)]), settling(star, [(0, 2), (2, 3), (3, 5)]), settling(bit, [(0, 7), (1, 3), (2, 1)])])
        self.check_same([[(1, 3)], [(3, 3), (4, 3)]], settling(Kind("star", 7, 1, 2), [(0, 3), (1, 5), (2, 3), (3, 6), (4, 0)]))
        self.check_length(6, "plain", 5, 2, 1)

    def check_length(self, length, *numbers):
        error = caught(Kind, *numbers)
        self.assertIs(type(error), InvalidLength)
        self.check_same(length, error.given)

    def test_all_lengths(self):
        just = {name: 0 for name in NAMES}
        for name, p, j, e in itertools.product(NAMES, [2, 3, 5, 7, 11, 13, 17, 31, 37, 61, 67, 73, 79, 83, 997], range(1, 17), range(1, 17)):
            own = OwnKind(name, p, j, e)
            if own.needed > p:
                self.check_length(own.needed, name, p, j, e)
            else:
                kind = Kind(name, p, j, e)
                self.check_same([name, p, j, e], [kind.name, kind.prime, kind.symbols, kind.pending])
                self.check_same([own.needed, own.q], [needed(kind), contents(kind)])
                just[name] += own.needed == p
        self.assertGreater(min(just.values()), 10)
        # With just as great a length as the prime, and one more.
        for name, right, wrong in [("star", (7, 3, 4), (7, 4, 4)), ("plain", (7, 1, 3), (7, 2, 2)), ("bit", (7, 2, 2), (7, 3, 2))]:
            self.assertIsNone(caught(Kind, name, *right))
            self.check_length(OwnKind(name, *wrong).needed, name, *wrong)

    def test_wrong_arguments(self):
        names = [None, True, 0, 1, "", "Star", "stars", "star ", "bits", "s", ["star"], ("star",), {"star": 1}, b"star", Plain(), Touchy(), []]
        primes = [0, 1, -5, 4, 9, 991 * 997, 1009, HUGE, *no_integers()]
        numbers = [0, 17, 18, -1, HUGE, *no_integers()]
        wrong = [(InvalidKind, names), (InvalidPrime, primes), (InvalidSymbols, numbers), (InvalidPending, numbers)]
        right = ["plain", 5, 1, 1]
        for index, (error_class, values) in enumerate(wrong):
            for value in values:
                self.check_given(error_class, value, Kind, *right[:index], value, *right[index + 1:])
                # Further ones that are wrong do not count.
                self.check_given(error_class, value, Kind, *right[:index], value, *[None] * (3 - index))
                self.check_given(error_class, value, Kind, *["star", 2, 16, 16][:index], value, *["star", 2, 16, 16][index + 1:])

    def test_equality(self):
        rows = [(name, p, j, e) for name in NAMES for p in (11, 13) for j in (1, 2) for e in (1, 2)]
        for one, other in itertools.product(rows, rows):
            self.assertIs(Kind(*one) == Kind(*other), one == other)
            self.assertIs(Kind(*one) != Kind(*other), one != other)
        for value in [None, True, 5, "star", ("star", 5, 1, 1), ["star", 5, 1, 1], Plain()]:
            self.assertFalse(Kind("star", 5, 1, 1) == value)
            self.assertTrue(Kind("star", 5, 1, 1) != value)


class Rests(Checks, unittest.TestCase):
    def near_rests(self, own):
        zero = (0,) * own.j
        yield from [*no_tuples(), (), zero, zero + (0,), zero[:-1], (zero,), list(zero), (0, zero), (1, zero), (2, zero), (-1, zero), (True, zero),
                    (False, zero), (None, zero), ("0", zero), (0, list(zero)), [0, zero], (0, zero, 0), (0,), (0, None), (None,), (0, 0), (zero, 0),
                    (0, zero + (0,)), (0, zero[:-1]), (0, (0, zero))]
        for at, item in itertools.product(range(own.j), [-1, own.p, own.p - 1, own.p + 1, HUGE, *no_integers()]):
            yield zero[:at] + (item,) + zero[at + 1:]
            yield (1, zero[:at] + (item,) + zero[at + 1:])
        yield from own.rests()[:40]

    def is_rest(self, own, value):
        if own.name == "bit":
            return type(value) is tuple and len(value) == 2 and type(value[0]) is int and value[0] in (0, 1) and own.is_data(value[1])
        return own.is_data(value) or own.name == "star" and value is None

    def test_any_values(self):
        for numbers in TINY + SMALL:
            kind, own = pair(numbers)
            found = {True: 0, False: 0}
            for value in self.near_rests(own):
                self.assertIs(is_rest(kind, value), self.is_rest(own, value))
                found[self.is_rest(own, value)] += 1
                if not self.is_rest(own, value):
                    self.check_given(InvalidValue, value, content, kind, value, 0)
                    self.check_given(InvalidValue, value, content, kind, value, None)
                    self.check_given(InvalidValue, value, explains, kind, [], value, None, None)
            self.assertGreater(min(found.values()), 2)

    def test_all_contents(self):
        for numbers in TINY + SMALL:
            kind, own = pair(numbers)
            rests = own.rests()
            for rest in rests if len(rests) < 60 else rests[:20] + rests[-20:]:
                for place in range(own.p):
                    self.check_same(own.content(rest, place), content(kind, rest, place))
                    self.assertLess(own.content(rest, place), contents(kind))
                for place in [-1, own.p, own.p + 1, HUGE, *no_integers()]:
                    self.check_given(InvalidPlace, place, content, kind, rest, place)

    def test_great_kinds(self):
        chance = random.Random(152)
        for name, p, j, e in [("star", 997, 16, 16), ("bit", 997, 16, 16), ("plain", 997, 16, 16), ("star", 37, 16, 16)]:
            kind, own = pair((name, p, j, e))
            for _ in range(20):
                data = tuple(chance.randrange(p) for _ in range(j))
                rest = (chance.randrange(2), data) if name == "bit" else data
                for place in (0, 1, p - 1, chance.randrange(p)):
                    self.check_same(own.content(rest, place), content(kind, rest, place))


class Explained(Checks, unittest.TestCase):
    def all_views(self, own):
        for items in itertools.product([None, *range(own.q)], repeat=own.p):
            yield [(place, item) for place, item in enumerate(items) if item is not None]

    def check_explains(self, kind, own, view, new, old):
        if new != old and not own.is_change(new, old):
            for at in (0, len(view), -1, None):
                self.check_given(InvalidValue, old, explains, kind, view, new, old, at)
            return
        for at in range(len(view) + 1):
            self.assertIs(explains(kind, view, new, old, at), own.explains(view, new, old, at))

    def test_all_small_views(self):
        for numbers in TINY:
            kind, own = pair(numbers)
            views, rests = list(self.all_views(own)), own.rests()
            for view in views if len(views) < 200 else views[::3]:
                for new, old in itertools.product(rests, rests):
                    self.check_explains(kind, own, view, new, old)

    def test_drawn_views(self):
        chance, seen = random.Random(153), {True: 0, False: 0}
        for numbers in SMALL:
            kind, own = pair(numbers)
            rests = own.rests()
            for _ in range(400):
                new, old = chance.choice(rests), chance.choice(rests)
                if not own.is_change(new, old) and new != old:
                    new, old = (new or rests[-1], None) if own.name == "star" else (new, (1 - new[0], old[1]))
                places = sorted(chance.sample(range(own.p), chance.randint(0, own.p)))
                cut = chance.randint(0, len(places))
                view = own.view(new, places[:cut]) + own.view(old, places[cut:])
                for at in range(cut, min(len(places), cut + own.e + chance.randint(-1, 1))):
                    view[at] = (places[at], chance.randrange(own.q))
                for at in range(len(view) + 1):
                    seen[explains(kind, view, new, old, at)] += 1
                self.check_explains(kind, own, view, new, old)
                self.check_explains(kind, own, tuple(view), new, old)
        self.assertGreater(min(seen.values()), 1000)

    def test_whatever_heads_are_taken_out(self):
        for numbers in TINY + [("star", 5, 2, 2), ("bit", 5, 1, 2)]:
            kind, own = pair(numbers)
            rests = own.rests()
            new, old = rests[-1], None if own.name == "star" else rests[0]
            views = list(own.left(new, old, list(range(own.p))))
            for view in views[::max(1, len(views) // 60)]:
                for some in subsets(view):
                    self.assertTrue(any([explains(kind, some, new, old, at) for at in range(len(some) + 1)]))

    def wrong_views(self, own):
        right = [(place, 0) for place in range(own.p)]
        wrong = [None, True, 1, "", "11", [0, 0], [], (), (0,), (0, 0, 0), (-1, 0), (0, -1), (own.p, 0), (0, own.q), (own.p + 1, 0), (0, own.q + 1),
                 (HUGE, 0), (0, HUGE), (True, 0), (0, True), (False, 0), (0, False), (None, 0), (0, None), ("0", 0), (0, "0"), {"a": 1}, Plain(), Touchy()]
        for at in range(own.p + 1):
            for item in wrong:
                yield right[:at] + [item] + right[at + 1:]
        yield from ([item] for item in wrong)
        yield from [right + right[-1:], right[::-1], [(0, 0), (0, 0)], [(1, 0), (0, 0)], [right], *no_lists()]

    def test_wrong_views(self):
        for numbers in TINY + SMALL[::3]:
            kind, own = pair(numbers)
            rest = own.rests()[0]
            for view in self.wrong_views(own):
                for form in [view, tuple(view)] if isinstance(view, list) else [view]:
                    for behind in ([rest, rest, 0], [rest, rest, 99], [None, 7, None], [[], [], []]):
                        self.check_given(InvalidView, form, explains, kind, form, *behind)
                    self.check_given(InvalidView, form, tell, kind, form)
                    self.check_given(InvalidView, form, settling, kind, form)
            for item in (own.q - 1, 0):
                self.assertIsInstance(explains(kind, [(own.p - 1, item)], rest, rest, 1), bool)

    def test_wrong_rests_and_numbers(self):
        for numbers in TINY + SMALL[::3]:
            kind, own = pair(numbers)
            rests = own.rests()
            view = own.view(rests[-1], range(own.p))
            wrong = [value for value in [True, False, 0, 1, "", [], (), [0] * own.j, (own.p,) * own.j, (0, [0] * own.j), (2, (0,) * own.j), Plain(), Touchy(),
                                         (-1,) * own.j, (0,) * (own.j + 1), {"a": 1}] if not is_rest(kind, value)]
            for value in wrong:
                for old, at in [(value, 0), (rests[0], 0), (rests[0], -1), (None, None)]:
                    self.check_given(InvalidValue, value, explains, kind, view, value, old, at)
                for new, at in [(rests[0], 0), (rests[-1], len(view)), (rests[-1], -1), (rests[0], None)]:
                    self.check_given(InvalidValue, value, explains, kind, view, new, value, at)
            for at in [-1, len(view) + 1, len(view) + 2, HUGE, *no_integers()]:
                for new, old in [(rests[-1], rests[-1]), (rests[-1], None if own.name == "star" else rests[0]), (rests[0], rests[0])]:
                    self.check_given(InvalidNumber, at, explains, kind, view, new, old, at)
                    self.check_given(InvalidNumber, 1, explains, kind, [], new, old, 1)

    def test_a_star_without_changes_to_none(self):
        kind = Kind("star", 5, 1, 1)
        old = (3,)
        for at in (0, -1, None):
            self.check_given(InvalidValue, old, explains, kind, [(0, 0)], None, old, at)
            self.check_given(InvalidValue, old, explains, kind, [(0, 0)], (2,), old, at)
        self.assertIs(explains(kind, [(0, 0)], None, None, 1), True)
        self.assertIs(explains(kind, [(0, 4)], (3,), (3,), 0), True)
        self.assertIs(explains(kind, [(0, 1)], None, None, 0), False)
        bit = Kind("bit", 5, 1, 1)
        old = (1, (2,))
        self.check_given(InvalidValue, old, explains, bit, [], (1, (3,)), old, 0)
        self.assertIs(explains(bit, [], (1, (2,)), old, 0), True)


class Telling(Checks, unittest.TestCase):
    def changes(self, own, most):
        rests = own.rests()
        rows = [(new, old) for new, old in itertools.product(rests, rests) if own.is_change(new, old) and new != old]
        rows += [(rest, rest) for rest in rests]
        return rows if len(rows) <= most else random.Random(154).sample(rows, most)

    def check_told(self, kind, own, view, new, old):
        found = tell(kind, view)
        self.assertIn(found, [own.data(new), own.data(old)])
        self.check_same(own.data(own.told(view)[0]), found)

    def test_all_that_cuts_of_tiny_kinds_leave(self):
        for numbers in TINY:
            kind, own = pair(numbers)
            for places in subsets(range(own.p)):
                if len(places) >= own.needed:
                    for new, old in self.changes(own, 1000):
                        for view in own.left(new, old, places):
                            self.check_told(kind, own, view, new, old)

    def test_what_cuts_of_small_kinds_leave(self):
        chance, lengths = random.Random(155), {}
        for numbers in SMALL:
            kind, own = pair(numbers)
            for new, old in self.changes(own, 12):
                for length in sorted({own.needed, min(own.p, own.needed + 1), own.p}):
                    places = sorted(chance.sample(range(own.p), length))
                    lengths[length > own.needed] = True
                    views = list(own.left(new, old, places))
                    for view in views if len(views) < 80 else chance.sample(views, 80):
                        self.check_told(kind, own, view, new, old)
                        self.assertEqual(tell(kind, tuple(view)), tell(kind, view))
        self.assertEqual(len(lengths), 2)

    def test_one_fewer(self):
        for numbers in TINY + SMALL:
            kind, own = pair(numbers)
            for length in range(own.needed):
                view = own.view(own.rests()[-1], range(length))
                self.check_count(TooFew, length, tell, kind, view)
                self.check_count(TooFew, length, settling, kind, view)
            self.assertIsNone(caught(tell, kind, own.view(own.rests()[-1], range(own.needed))))

    def test_views_that_nothing_explains(self):
        chance, without = random.Random(156), 0
        for numbers in TINY + SMALL:
            kind, own = pair(numbers)
            for _ in range(150):
                places = sorted(chance.sample(range(own.p), chance.randint(own.needed, own.p)))
                view = [(place, chance.choice([chance.randrange(own.q), own.q - 1, own.p - 1])) for place in places]
                self.check_same(own.data(own.told(view)[0]), tell(kind, view))
                self.check_same(own.settling(view), settling(kind, view))
                if len(own.rests()) < 30:
                    rests = own.rests()
                    without += not any(own.some_explains(view, new, old) for new, old in itertools.product(rests, rests)
                                       if new == old or own.is_change(new, old))
        self.assertGreater(without, 50)

    def test_at_rest(self):
        for numbers in TINY + SMALL:
            kind, own = pair(numbers)
            for rest in own.rests()[:30]:
                view = own.view(rest, range(own.p))
                self.check_same(own.data(rest), tell(kind, view))
                self.check_same([], settling(kind, view))

    def test_great_kinds(self):
        chance = random.Random(157)
        for numbers in [("star", 997, 16, 16), ("bit", 997, 16, 16), ("plain", 997, 16, 16), ("plain", 79, 16, 16), ("bit", 67, 16, 16)]:
            kind, own = pair(numbers)
            for _ in range(6):
                one, other = (tuple(chance.randrange(own.p) for _ in range(own.j)) for _ in range(2))
                new, old = {"star": (one, None), "bit": ((1, one), (0, other)), "plain": (one, other)}[own.name]
                places = sorted(chance.sample(range(own.p), chance.randint(own.needed, min(own.p, own.needed + 20))))
                at = chance.randint(0, len(places))
                view = own.view(new, places[:at]) + own.view(old, places[at:])
                for torn in range(at, min(len(places), at + own.e)):
                    view[torn] = (places[torn], chance.randrange(own.q))
                self.check_told(kind, own, view, new, old)
                self.check_same(own.settling(view), settling(kind, view))


class Clashes(Checks, unittest.TestCase):
    def check_clash(self, kind, own, value):
        self.assertIs(type(value), tuple)
        view, one, other = value
        self.assertEqual([place for place, _ in view], list(range(own.needed - 1)))
        self.assertTrue(all(type(item) is int and 0 <= item < own.q for _, item in view))
        data = []
        for new, old, at in (one, other):
            for rest in (new, old):
                self.assertIs(is_rest(kind, rest), True)
            self.assertTrue(new == old or own.is_change(new, old))
            self.assertTrue(0 <= at <= len(view) and own.explains(view, new, old, at))
            self.assertIs(explains(kind, view, new, old, at), True)
            data.append([own.data(new), own.data(old)])
        self.assertFalse([row for row in data[0] if row in data[1]])
        self.assertIs(is_clash(kind, value), True)

    def test_every_kind(self):
        count = 0
        for name, p, j, e in itertools.product(NAMES, PRIMES[2:22], range(1, 17), range(1, 17)):
            own = OwnKind(name, p, j, e)
            if own.needed <= p:
                count += 1
                self.check_clash(Kind(name, p, j, e), own, clash(Kind(name, p, j, e)))
        self.assertGreater(count, 5000)

    def test_great_kinds(self):
        for name, p, j, e in itertools.product(NAMES, [83, 199, 499, 997], [1, 2, 7, 16], [1, 2, 7, 16]):
            self.check_clash(Kind(name, p, j, e), OwnKind(name, p, j, e), clash(Kind(name, p, j, e)))

    def test_all_primes(self):
        for p in PRIMES[2:]:
            for name in NAMES:
                self.check_clash(Kind(name, p, 1, 1), OwnKind(name, p, 1, 1), clash(Kind(name, p, 1, 1)))

    def test_primes_2_and_3(self):
        for numbers in TINY:
            kind = Kind(*numbers)
            self.check_given(InvalidKind, kind, clash, kind)
            for value in [None, True, (), ([], (), ()), ([(0, 0)], ((1,), None, 0), ((0,), (0,), 0)), Touchy(), [[]]]:
                self.check_given(InvalidKind, kind, is_clash, kind, value)

    def test_each_call_alike_and_new(self):
        for numbers in SMALL:
            kind = Kind(*numbers)
            found = self.check_new_lists(clash, kind)
            self.assertEqual(frozen(found), frozen(clash(Kind(*numbers))))
            found[0].append(9)
            self.assertIs(is_clash(kind, clash(kind)), True)

    def test_any_values(self):
        kind = Kind("plain", 5, 1, 1)
        view, one, other = clash(kind)
        self.assertIs(is_clash(kind, (tuple(view), one, other)), True)
        self.assertIs(is_clash(kind, (view, other, one)), True)
        for value in [*no_tuples(), (), (view,), (view, one), (view, one, other, None), [view, one, other], (one, other, view),
                      (view, list(one), other), (view, one, list(other)), (view, one, one), (view, other, other), (view, None, other),
                      (None, one, other), ([], one, other), (view[:1], one, other), (view + [(2, 0)], one, other), ([*view[::-1]], one, other)]:
            self.assertIs(is_clash(kind, value), False)

    def spoilt(self, own, value):
        """The clash with one item of it changed, or taken away, or one more."""
        view, one, other = value
        wrong = [None, True, False, "0", -1, own.p * 2, HUGE, [], (), [0], Touchy(), Plain()]
        for at, (place, item) in enumerate(view):
            for bad in [*wrong, (place,), [place, item], (place, item, 0), (place, own.q), (place, -1), (place, True), (place, None),
                        (place + 1, item), (own.p, item), (-1, item), (None, item)]:
                yield (view[:at] + [bad] + view[at + 1:], one, other)
            yield (view[:at] + view[at + 1:], one, other)
        for index, explanation in enumerate((one, other)):
            for at in range(3):
                for bad in [*wrong, own.rests()[0] if at == 2 else 0, len(view) + 1]:
                    # None is a rest of a star, and 0 may be a right number.
                    if not (at < 2 and own.name == "star" and bad is None):
                        row = explanation[:at] + (bad,) + explanation[at + 1:]
                        yield (view, row, other) if index == 0 else (view, one, row)
            yield (view, explanation, explanation)

    def test_clashes_with_one_item_spoilt(self):
        for numbers in [("star", 5, 2, 2), ("star", 5, 1, 1), ("bit", 5, 1, 2), ("bit", 7, 2, 2), ("plain", 5, 1, 1), ("plain", 7, 2, 1)]:
            kind, own = pair(numbers)
            for value in self.spoilt(own, clash(kind)):
                self.assertIs(is_clash(kind, value), False, numbers)

    def test_all_small_values(self):
        # Each view of a small kind with each two explanations.
        for numbers in [("star", 5, 1, 1), ("plain", 5, 1, 1)]:
            kind, own = pair(numbers)
            rests, seen = own.rests(), {True: 0, False: 0}
            explanations = [(new, old, at) for new in rests for old in rests for at in range(own.needed)]
            for items in itertools.product(range(0, own.q, 2), repeat=own.needed - 1):
                view = list(enumerate(items))
                for one, other in itertools.product(explanations[::3], explanations[::2]):
                    right = True
                    for new, old, at in (one, other):
                        right = right and (new == old or own.is_change(new, old)) and own.explains(view, new, old, at)
                    right = right and not set(one[:2]) & set(other[:2])
                    seen[right] += 1
                    self.assertIs(is_clash(kind, (view, one, other)), right)
            self.assertGreater(min(seen.values()), 3)


class Settling(Checks, unittest.TestCase):
    def check_all_cuts(self, kind, own, start, new, old):
        """Settling, cut at any group with anything in its heads, again and again."""
        waiting, reached = [start], {frozen(start)}
        while waiting:
            view = waiting.pop()
            groups = settling(kind, view)
            self.check_same(own.settling(view), groups)
            told, now = tell(kind, view), dict(view)
            for group in groups:
                for items in itertools.product(range(own.q), repeat=len(group)):
                    left = sorted({**now, **dict(zip([place for place, _ in group], items))}.items())
                    if frozen(left) not in reached:
                        reached.add(frozen(left))
                        waiting.append(left)
                        self.assertTrue(own.some_explains(left, new, old))
                now.update(group)
            rest = new if own.data(new) == told else old
            if own.name == "bit":
                rest = own.told(view)[0]
                self.assertIn(rest, (new, old))
            self.assertEqual(sorted(now.items()), own.view(rest, [place for place, _ in view]))
            self.assertEqual(tell(kind, sorted(now.items())), told)
        return len(reached)

    def some_changes(self, own):
        rests = own.rests()
        if own.name == "star":
            return [(rests[1], None), (rests[-1], None), (None, None), (rests[2], rests[2])]
        if own.name == "bit":
            half = len(rests) // 2
            return [(rests[0], rests[half]), (rests[-1], rests[0]), (rests[half], rests[1]), (rests[1], rests[1])]
        return [(rests[0], rests[-1]), (rests[1], rests[0]), (rests[1], rests[1])]

    def test_cut_again_and_again(self):
        most = 0
        for numbers in TINY + [("star", 5, 2, 2), ("bit", 5, 1, 1), ("bit", 5, 1, 2), ("plain", 5, 1, 1), ("plain", 5, 1, 2), ("plain", 7, 2, 1)]:
            kind, own = pair(numbers)
            for new, old in self.some_changes(own):
                for length in sorted({own.needed, min(own.needed + 1, own.p)}):
                    places = list(range(own.p - length, own.p))
                    views = list(own.left(new, old, places))
                    for view in views if own.q < 5 else random.Random(7).sample(views, min(len(views), 8)):
                        most = max(most, self.check_all_cuts(kind, own, view, new, old))
        self.assertGreater(most, 50)

    def test_the_groups_of_views_that_cuts_leave(self):
        chance = random.Random(158)
        for numbers in SMALL:
            kind, own = pair(numbers)
            for new, old in self.some_changes(own):
                places = sorted(chance.sample(range(own.p), chance.randint(own.needed, own.p)))
                views = list(own.left(new, old, places))
                for view in views if len(views) < 150 else chance.sample(views, 150):
                    self.check_same(own.settling(view), settling(kind, view))
                    self.check_same(own.settling(view), settling(kind, tuple(view)))

    def test_the_bit_that_the_rule_takes(self):
        kind = Kind("bit", 5, 1, 1)
        # All alike: the bit of the second; the last two alike: that of the last; otherwise that of the first.
        for view, told, groups in [([(0, 7), (1, 8), (2, 9)], (3,), [[(0, 8)], [(2, 8)]]), ([(0, 7), (1, 3), (2, 1)], (1,), [[(1, 1)], [(0, 1)]]),
                                   ([(0, 7), (1, 6), (2, 1)], (2,), [[(1, 7)], [(2, 7)]]), ([(0, 1), (1, 6), (2, 9)], (4,), [[(1, 9)], [(0, 9)]]),
                                   ([(0, 1), (1, 6), (2, 4)], (1,), [[(1, 1)], [(2, 1)]])]:
            self.check_same(told, tell(kind, view))
            self.check_same(groups, settling(kind, view))

    def test_windows_of_e_heads(self):
        kind = Kind("star", 11, 1, 3)
        # The window begins with a head that differs, and heads in it that do not differ are not written.
        view = [(0, 4), (1, 4), (2, 5), (3, 4), (4, 0), (5, 4), (6, 1), (7, 2), (8, 3)]
        self.check_same([[(2, 4), (4, 4)], [(6, 4), (7, 4), (8, 4)]], settling(kind, view))
        # Back: a 0 among the first four tells None.
        view = [(0, 4), (1, 5), (2, 0), (3, 4), (4, 0), (5, 4), (6, 1), (7, 0), (8, 3)]
        self.check_same([[(8, 0), (6, 0)], [(5, 0), (3, 0)], [(1, 0), (0, 0)]], settling(kind, view))

    def test_told_lists_are_new(self):
        found = self.check_new_lists(settling, Kind("star", 7, 1, 2), [(0, 3), (1, 5), (2, 3), (3, 6), (4, 0)])
        found[0].append(9)
        found.append(9)


if __name__ == "__main__":
    unittest.main()
