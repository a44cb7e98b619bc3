"""[121], [122], [123]: histories, held against the test's own sets of what is possible."""

import itertools
import random
import unittest

from checks import Checks, Plain, Touchy, caught, no_integers, no_lists, no_tuples
from reckoning import OwnBlocks
from storing import SOME, opened
from sparesum.arrays import Array
from sparesum.errors import InvalidEvents, InvalidTold, TooMany
from sparesum.histories import could_be, first_wrong, is_history, is_right

ALL = (could_be, is_right, first_wrong)
SMALL = [(1, 0, 1, 1, 2), (2, 1, 2, 1, 5), (3, 1, 2, 2, 5), (2, 0, 3, 2, 5), (4, 1, 6, 3, 13)]


def sets_behind(start, events):
    """The sets of what is possible ahead of all events and behind each one, by the words of [122]."""
    possible, wish = {tuple(start)}, None
    sets = [possible]
    for event in events:
        granted = {tuple(dict(wish or ()).get(at, item) for at, item in enumerate(row)): row for row in possible}
        if event[0] == "wish":
            wish = event[1]
        elif event[0] == "done":
            possible, wish = set(granted), None
        elif event[0] == "cut":
            possible, wish = possible | set(granted), None
        else:
            told = tuple(event[1])
            possible = {row for row in possible if row == told
                        or wish is not None and tuple(dict(wish).get(at, item) for at, item in enumerate(row)) == told}
        sets.append(possible)
    return sets


def some_wish(own, chance, limit=None):
    records = sorted(chance.sample(range(own.m), chance.randint(0, own.k)))
    return [(record, tuple(chance.randrange(limit or own.q) for _ in range(own.d))) for record in records]


def some_history(own, chance, start, length):
    """A history whose tellings are mostly of what is possible, with the wish under way or without it, or near it."""
    events, under_way = [], None
    for _ in range(length):
        kind = chance.choice(["wish", "wish", "done", "cut", "told"])
        if kind == "wish" and under_way is None:
            under_way = some_wish(own, chance, 2)
            events.append(("wish", chance.choice([under_way, tuple(under_way)])))
        elif kind == "done" and under_way is not None or kind == "cut":
            events.append((kind,))
            under_way = None
        elif kind == "told":
            rows = sorted(sets_behind(start, events)[-1]) or [tuple(start)]
            told = list(chance.choice(rows))
            if under_way is not None and chance.random() < 0.5:
                told = own.granted(told, under_way)
            if chance.random() < 0.1:
                told[chance.randrange(own.m)] = tuple(chance.randrange(own.q) for _ in range(own.d))
            events.append(("told", chance.choice([told, tuple(told)])))
    return events


def grown(counts, limit):
    """Events, by wishes of one content of one record that are cut, behind which each record has so many contents."""
    return [event for record, count in enumerate(counts) for content in range(1, count)
            for event in [("wish", [(record, (content,))]), ("cut",)]][:limit]


class Base(Checks, unittest.TestCase):
    def check_history(self, array, start, events):
        """All three tell what the test's own sets tell."""
        self.assertIs(is_history(array, events), True)
        sets = sets_behind(start, events)
        greatest = [len(possible) for possible in sets if len(possible) > 300]
        if greatest:
            for function in ALL:
                self.check_count(TooMany, greatest[0], function, array, start, events)
            return
        self.check_same([list(row) for row in sorted(sets[-1])], could_be(array, start, events))
        self.assertIs(is_right(array, start, events), len(sets[-1]) > 0)
        wrong = None if sets[-1] else sets.index(set()) - 1
        self.check_same(wrong, first_wrong(array, start, events))


class Events(Base):
    def test_right_histories(self):
        array = Array(3, 1, 2, 2, 5)
        wishes = [[], [(0, (1, 2))], [(0, (1, 2)), (1, (4, 0))]]
        for wish in wishes:
            for ahead in ([], [("cut",)], [("told", [(0, 0), (0, 0)])], [("cut",), ("cut",)]):
                for between in ([], [("told", [(0, 0), (4, 4)])], [("told", ((0, 0), (4, 4)))] * 2):
                    for last in ([], [("done",)], [("cut",)], [("done",), ("wish", wish)], [("cut",), ("wish", tuple(wish))]):
                        for form in (wish, tuple(wish)):
                            events = ahead + [("wish", form)] + between + last
                            self.assertIs(is_history(array, events), True)
                            self.assertIs(is_history(array, tuple(events)), True)
        self.assertIs(is_history(array, []), True)
        self.assertIs(is_history(array, ()), True)

    def test_where_events_may_stand(self):
        array = Array(2, 1, 2, 1, 5)
        events = {"wish": ("wish", [(0, (1,))]), "done": ("done",), "cut": ("cut",), "told": ("told", [(0,), (0,)])}
        for length in range(5):
            for kinds in itertools.product(sorted(events), repeat=length):
                under_way, right = False, True
                for kind in kinds:
                    right = right and not (kind == "wish" and under_way or kind == "done" and not under_way)
                    under_way = kind == "wish" or kind == "told" and under_way
                row = [events[kind] for kind in kinds]
                self.assertIs(is_history(array, row), right)
                self.assertIs(is_history(array, tuple(row)), right)
                if not right:
                    self.check_given(InvalidEvents, row, first_wrong, array, [(0,), (0,)], row)

    def near_events(self, own):
        """Values that are no events, also where no wish is under way, or where one is."""
        told, item = [(0,) * own.d] * own.m, (0, (0,) * own.d)
        yield from [*no_tuples(), (), (None,), (True,), ([],), ("",), ("Cut",), ("cut ",), ("open",), ("lost",), ("opening",), "cut", ["cut"],
                    ["done"], ["wish", [item]], ["told", told], ("wish",), ("told",), ("cut", None), ("done", None), ("cut", []),
                    ("done", [item]), ("wish", [item], None), ("told", told, None), ("wish", item), ("told", told[0]),
                    ("wish", told), ("told", [item]), (("wish", [item]),), (("cut",),), ("wish", [item, item]), (0, [item]), (Touchy(),),
                    (Touchy(), told), (Plain(), [item]), ("tell", told), ("", told), (None, told), ("Told", told), ("wishes", [item])]
        wrong = [*no_lists(), [(own.m, (0,) * own.d)], [(-1, (0,) * own.d)], [(True, (0,) * own.d)], [[0, (0,) * own.d]],
                 [(0, [0] * own.d)], [(0, (0,) * (own.d + 1))], [(0, (own.q,) * own.d)], [(0, (True,) * own.d)], [(0,)],
                 [(record, (0,) * own.d) for record in range(own.k + 1)]]
        yield from (("wish", wish) for wish in wrong)
        wrong = [*no_lists(), [], told[:-1], told + told[:1], [list(row) for row in told], [told], [(0,) * (own.d + 1)] * own.m,
                 [(own.q,) * own.d] * own.m, [(-1,) * own.d] * own.m, [(False,) * own.d] * own.m, [(None,) * own.d] * own.m]
        yield from (("told", records) for records in wrong)

    def test_values_near_events(self):
        for numbers in SMALL:
            array, own = Array(*numbers), OwnBlocks(*numbers)
            start = [(0,) * own.d] * own.m
            wish = ("wish", [(0, (1,) * own.d)])
            for event in self.near_events(own):
                for events in [[event], [("cut",), event], [wish, event], [wish, ("done",), event], [event, ("cut",)]]:
                    for form in (events, tuple(events)):
                        self.assertIs(is_history(array, form), False)
                    self.check_given(InvalidEvents, events, could_be, array, start, events)

    def test_values_that_are_no_lists(self):
        array = Array(2, 1, 2, 1, 5)
        for value in [*no_lists(), [None], ["cut"], [["cut"]], [[("cut",)]], ("cut",), (("cut",), None), {0: ("cut",)}]:
            self.assertIs(is_history(array, value), False)
            for function in ALL:
                self.check_given(InvalidEvents, value, function, array, [(0,), (0,)], value)

    def test_histories_of_1000_and_of_1001_events(self):
        array, start = Array(2, 1, 2, 1, 5), [(0,), (0,)]
        pair = [("wish", [(0, (1,))]), ("done",)]
        for unit in ([("cut",)] * 2, [("told", start)] * 2, pair):
            events = unit * 500
            self.check_history(array, start, events)
            self.check_history(array, start, tuple(events))
            for last in (("cut",), ("told", start), ("wish", [])):
                for longer in (events + [last], tuple(events) + (last,), events * 2):
                    self.assertIs(is_history(array, longer), False)
                    for function in ALL:
                        self.check_given(InvalidEvents, longer, function, array, start, longer)

    def test_examples(self):
        array = Array(2, 1, 2, 1, 5)
        events = [("wish", [(0, (1,))]), ("told", [(1,), (0,)]), ("cut",), ("wish", [(1, (2,))]), ("cut",)]
        start = [(0,), (0,)]
        self.check_same([[(0,), (0,)], [(0,), (2,)], [(1,), (0,)], [(1,), (2,)]], could_be(array, start, events))
        self.check_same([[(0,), (2,)]], could_be(array, start, events + [("told", [(0,), (2,)])]))
        self.check_same(5, first_wrong(array, start, events + [("told", [(2,), (0,)])]))
        self.assertIs(is_right(array, start, [("told", [(0,), (1,)])]), False)
        self.assertIs(is_history(array, [("done",)]), False)
        self.assertIs(is_history(array, []), True)


class Possible(Base):
    def test_short_histories(self):
        # All histories of up to five events of one record with three contents, or two records with two.
        for numbers, start in [((1, 0, 1, 1, 3), [(0,)]), ((1, 0, 2, 2, 2), [(0,), (1,)])]:
            array, own = Array(*numbers), OwnBlocks(*numbers)
            records = [list(row) for row in itertools.product([(0,), (1,)], repeat=own.m)]
            wishes = [("wish", [(0, (1,))]), ("wish", [(own.m - 1, (0,))])]
            for length in range(6 if own.m == 1 else 5):
                for events in itertools.product([*wishes, ("done",), ("cut",), *[("told", row) for row in records]], repeat=length):
                    if is_history(array, events):
                        self.check_history(array, start, list(events))

    def test_drawn_histories(self):
        chance = random.Random(122)
        seen = {"none": 0, "one": 0, "several": 0}
        for numbers in SMALL:
            array, own = Array(*numbers), OwnBlocks(*numbers)
            for _ in range(120):
                start = [tuple(chance.randrange(2) for _ in range(own.d)) for _ in range(own.m)]
                events = some_history(own, chance, start, chance.choice([3, 8, 20]))
                self.check_history(array, start, events)
                self.check_history(array, tuple(start), tuple(events))
                count = len(sets_behind(start, events)[-1])
                seen["none" if count == 0 else "one" if count == 1 else "several"] += 1
        self.assertGreater(min(seen.values()), 50)

    def test_a_telling_amid_a_wish(self):
        array = Array(1, 0, 2, 2, 5)
        start, wish = [(0,), (0,)], ("wish", [(0, (1,)), (1, (2,))])
        for told in ([(0,), (0,)], [(1,), (2,)]):
            events = [wish, ("told", told)]
            self.check_same([start], could_be(array, start, events))
            self.check_same([[(1,), (2,)]], could_be(array, start, events + [("done",)]))
            # What was told amid the wish does not tell which of the two is left.
            self.check_same([start, [(1,), (2,)]], could_be(array, start, events + [("cut",)]))
        for told in ([(1,), (0,)], [(0,), (2,)]):
            self.check_same(1, first_wrong(array, start, [wish, ("told", told), ("cut",), ("cut",)]))
            self.check_same([], could_be(array, start, [wish, ("told", told), ("done",), ("told", told)]))

    def test_the_wish_at_the_end_is_left_out(self):
        array = Array(1, 0, 2, 2, 5)
        for wish in ([], [(0, (1,))], [(0, (0,)), (1, (3,))]):
            self.check_same([[(0,), (0,)]], could_be(array, [(0,), (0,)], [("wish", wish)]))
            self.assertIs(is_right(array, [(0,), (0,)], [("wish", wish)]), True)

    def test_an_answer_takes_nothing_else(self):
        array = Array(1, 0, 2, 1, 5)
        events = [("wish", [(0, (1,))]), ("cut",), ("wish", [(0, (2,))]), ("done",)]
        self.check_same([[(2,), (0,)]], could_be(array, [(0,), (0,)], events))
        self.check_same(4, first_wrong(array, [(0,), (0,)], events + [("told", [(0,), (0,)])]))
        self.check_same([[(2,), (0,)]], could_be(array, [(0,), (0,)], events + [("cut",)]))

    def test_without_events(self):
        for numbers in SMALL:
            array, own = Array(*numbers), OwnBlocks(*numbers)
            for start in (own.some_records(1), tuple(own.some_records(2))):
                self.check_same([list(start)], could_be(array, start, []))
                self.assertIs(is_right(array, start, ()), True)
                self.assertIsNone(first_wrong(array, start, []))

    def test_told_lists_are_new(self):
        array, start, events = Array(2, 1, 2, 1, 5), [(0,), (0,)], [("told", [(0,), (0,)])]
        for row in (events, [], [("wish", [(0, (1,))]), ("cut",)]):
            found = self.check_new_lists(could_be, array, start, row)
            found[0].append(9)
            found.append(9)
        self.assertEqual([start, events], [[(0,), (0,)], [("told", [(0,), (0,)])]])


class TooManyPossible(Base):
    def test_just_300(self):
        for numbers, counts in [((1, 0, 2, 1, 61), [60, 5]), ((1, 0, 2, 1, 61), [5, 60]), ((1, 0, 5, 1, 5), [2, 2, 3, 5, 5])]:
            array, own = Array(*numbers), OwnBlocks(*numbers)
            start, events = [(0,)] * own.m, grown(counts, None)
            self.assertEqual(len(could_be(array, start, events)), 300)
            self.check_history(array, start, events)
            again = events + [("wish", events[0][1]), ("cut",), ("wish", []), ("cut",), ("cut",)]
            self.assertEqual(len(could_be(array, start, again)), 300)
            self.check_history(array, start, events + [("told", [(1,)] * own.m)])

    def test_301_and_more(self):
        for numbers, counts, greatest in [((1, 0, 2, 1, 43), [43, 7], 301), ((1, 0, 2, 1, 43), [7, 43], 301),
                                          ((1, 0, 9, 1, 5), [2] * 9, 512), ((1, 0, 2, 1, 61), [60, 6], 360)]:
            array, own = Array(*numbers), OwnBlocks(*numbers)
            start, events = [(0,)] * own.m, grown(counts, None)
            first = events[:-2]
            self.assertLessEqual(len(could_be(array, start, first)), 300)
            self.assertLessEqual(len(could_be(array, start, first + events[-2:-1])), 300)
            told = ("told", [(0,)] * own.m)
            for behind in ([], [told], [told, told], [("wish", []), ("done",)], [("wish", [(0, (1,))]), told, ("cut",)],
                           [("wish", [(record, (0,)) for record in range(own.k)]), ("done",), told]):
                for function in ALL:
                    self.check_count(TooMany, greatest, function, array, start, events + behind)
            # A telling ahead of the cut leaves one: then there are not too many.
            fewer = first + [told] + events[-2:]
            self.assertEqual(len(could_be(array, start, fewer)), 2)
            self.check_history(array, start, fewer)

    def test_the_first_count_above_300(self):
        array, start = Array(1, 0, 11, 1, 7), [(0,)] * 11
        for length in range(0, 21):
            events = grown([2] * 11, length)
            self.check_history(array, start, events)
        for function in ALL:
            self.check_count(TooMany, 512, function, array, start, grown([2] * 11, None))

    def test_an_answer_brings_no_more(self):
        array, start = Array(1, 0, 2, 1, 61), [(0,), (0,)]
        events = grown([60, 5], None) + [("wish", [(0, (60,))])]
        self.assertEqual(len(could_be(array, start, events)), 300)
        self.check_history(array, start, events + [("done",)])
        self.check_count(TooMany, 305, could_be, array, start, events + [("cut",)])


class WrongArguments(Base):
    def test_in_their_order(self):
        array = Array(1, 0, 9, 1, 5)
        right, many = [(0,)] * 9, grown([2] * 9, None)
        for start in [*no_lists(), [], right[:-1], right + right[:1], [[0]] * 9, [(5,)] * 9, [(True,)] * 9, [()] * 9, [(0, 0)] * 9]:
            for events in (many, many + [("done",)], None, [], [("told", start)]):
                for function in ALL:
                    self.check_given(InvalidTold, start, function, array, start, events)
        for behind in ([("done",)], [None], [("told", right[:-1])], [("wish", []), ("wish", [])], [("cut",)] * 1000):
            for function in ALL:
                events = many + behind
                self.check_given(InvalidEvents, events, function, array, right, events)

    def test_too_many_behind_a_wrong_telling(self):
        # Behind a telling of what is not possible there is none, and so never too many.
        array, start = Array(1, 0, 9, 1, 5), [(0,)] * 9
        events = [("told", [(1,)] * 9)] + grown([2] * 9, None)
        self.check_same(0, first_wrong(array, start, events))
        self.check_same([], could_be(array, start, events))


class OfStores(Base):
    ACTS = ["step"] * 30 + ["finish"] * 4 + ["begin"] * 10 + ["cut"] * 3 + ["lose"] * 2 + ["replace"] * 3 + ["take_in"] * 4 + ["told"] * 8

    def test_histories_of_stores_are_right(self):
        chance, cuts = random.Random(123), 0
        for numbers in SOME:
            own = OwnBlocks(*numbers)
            for _ in range(2 if own.n > 4 else 4):
                cuts += self.check_store(own, chance)
        self.assertGreater(cuts, 100)

    def check_store(self, own, chance):
        array, start = Array(own.n, own.f, own.m, own.k, own.q), own.some_records(chance.randrange(50))
        store, events = opened(own, start), []
        for _ in range(250):
            self.act(own, store, chance, chance.choice(self.ACTS), events)
            if len(events) > 1 and events[-1][0] == "told" and events[-2] == ("cut",):
                self.check_one_possible(array, start, events)
        self.assertIs(is_history(array, events), True)
        sets = sets_behind(start, events)
        if max(len(possible) for possible in sets) > 300:
            self.assertIs(type(caught(is_right, array, start, events)), TooMany)
        else:
            self.assertIs(is_right(array, start, events), True)
            self.check_history(array, start, events)
        return events.count(("cut",))

    def check_one_possible(self, array, start, events):
        if max(len(possible) for possible in sets_behind(start, events)) <= 300:
            self.assertEqual(could_be(array, start, events), [list(events[-1][1])])

    def act(self, own, store, chance, act, events):
        work = store.work()
        if act in ("step", "finish") and work is not None:
            count = len(store.answered())
            store.step() if act == "step" else store.finish()
            if len(store.answered()) > count:
                events.append(("done",))
        elif act == "begin" and work is None:
            wish = some_wish(own, chance)
            store.begin(wish)
            events.append(("wish", wish))
        elif act == "cut":
            places = sorted({write[:2] for write in store.disks.pending()})
            some = chance.sample(places, chance.randint(0, len(places)))
            store.cut([(*place, chance.randrange(own.q)) for place in some])
            events.append(("cut",))
        elif act == "told" and work != ("opening",):
            events.append(("told", store.records()))
        elif act in ("lose", "replace") or act == "take_in" and work is None:
            caught(getattr(store, act), chance.randrange(own.n))

    def test_each_step_of_a_wish_cut(self):
        own = OwnBlocks(2, 1, 2, 1, 5)
        array, start, wish = Array(2, 1, 2, 1, 5), own.some_records(1), [(1, (2,))]
        found = {}
        for at in range(40):
            store = opened(own, start)
            store.begin(wish)
            events = [("wish", wish)]
            for _ in range(at):
                if store.work() is not None and store.step() == ("done",):
                    events.append(("done",))
                events.append(("told", store.records()))
            store.cut([(disk, block, 3) for disk, block, _ in store.disks.pending()])
            store.finish()
            events += [("cut",), ("told", store.records())]
            self.assertIs(is_right(array, start, events), True)
            self.check_same([store.records()], could_be(array, start, events))
            found[tuple(store.records())] = True
            other = own.granted(start, wish) if store.records() == start else start
            wrong = events[:-1] + [("told", other)]
            self.assertIs(is_right(array, start, wrong), ("done",) not in events)
        self.assertEqual(len(found), 2)

    def test_wrong_kinds_of_integers(self):
        array = Array(1, 0, 1, 1, 5)
        for item in no_integers():
            self.assertIs(is_history(array, [("told", [(item,)])]), False)
            self.assertIs(is_history(array, [("wish", [(0, (item,))])]), False)
            self.assertIs(is_history(array, [("wish", [(item, (0,))])]), False)


if __name__ == "__main__":
    unittest.main()
