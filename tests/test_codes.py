"""[31], [32], [33], [34]: codes, held against words that the tests reckon themselves."""

import itertools
import unittest

from checks import Checks, Plain, Touchy, no_integers, no_lists, no_tuples
from sparesum.codes import Code, agreement, data_from, fits, is_word, mended, word
from sparesum.errors import InvalidData, InvalidLength, InvalidPoints, InvalidPrime, InvalidSymbols, NoWord, TooFew

SMALL = [(2, 1, 1), (2, 2, 1), (2, 2, 2), (3, 1, 1), (3, 2, 1), (3, 3, 1), (3, 3, 2), (3, 3, 3), (5, 3, 1), (5, 4, 1),
         (5, 4, 2), (5, 4, 3), (5, 3, 3), (5, 5, 2)]

WRONG_POINTS = [None, True, 3, "", "12", [1, 1], [], (), (1,), (1, 1, 0), (-1, 0), (1, -1), (5, 0), (6, 0), (7, 0),
                (1, 7), (1, 10 ** 59), (10 ** 59, 1), (True, 0), (1, False), (None, 0), (1, None), ("1", 1), (1, "1"),
                ((1,), 1), (1, (1,)), {"a": 1}, Plain(), Touchy()]


def reckoned(code, data):
    """The word of [31] by its sum; Python has 0 ** 0 as 1, too."""
    return tuple(sum(data[i] * place ** i for i in range(len(data))) % code.prime for place in range(code.length))


def all_words(code):
    """A dict from all data of the code to their words."""
    return {data: reckoned(code, data) for data in itertools.product(range(code.prime), repeat=code.symbols)}


def all_points(code, least=0):
    """All lists of ascending points of the code, of a least length."""
    for length in range(least, code.length + 1):
        for places in itertools.combinations(range(code.length), length):
            for symbols in itertools.product(range(code.prime), repeat=length):
                yield list(zip(places, symbols))


def some_data(code, seed):
    return tuple((seed + 3 * i * i + 11 * i * seed + 1) % code.prime for i in range(code.symbols))


def changed(code, row, spots):
    """The word or list of points with another symbol at each of these spots."""
    out = list(row)
    for spot in spots:
        if isinstance(out[spot], tuple):
            out[spot] = (out[spot][0], (out[spot][1] + 1 + spot % (code.prime - 1)) % code.prime)
        else:
            out[spot] = (out[spot] + 1 + spot % (code.prime - 1)) % code.prime
    return out


class Codes(Checks, unittest.TestCase):
    def test_attributes(self):
        for prime, length, symbols in [*SMALL, (997, 997, 64), (997, 1, 1), (67, 64, 64), (67, 67, 64), (61, 61, 61)]:
            code = Code(prime, length, symbols)
            self.assertEqual([code.prime, code.length, code.symbols], [prime, length, symbols])

    def test_all_sizes_of_a_small_prime(self):
        for length in range(-1, 9):
            for symbols in range(-1, 9):
                if not 1 <= length <= 7:
                    self.check_given(InvalidLength, length, Code, 7, length, symbols)
                elif not 1 <= symbols <= length:
                    self.check_given(InvalidSymbols, symbols, Code, 7, length, symbols)
                else:
                    self.assertEqual(Code(7, length, symbols).symbols, symbols)

    def test_wrong_primes(self):
        for prime in [-7, -1, 0, 1, 4, 91, 998, 1009, 10 ** 59, *no_integers()]:
            self.check_given(InvalidPrime, prime, Code, prime, 1, 1)
            self.check_given(InvalidPrime, prime, Code, prime, None, 0)

    def test_wrong_lengths(self):
        for prime in [2, 7, 997]:
            for length in [0, -1, -prime, prime + 1, prime + 2, 10 ** 59, *no_integers()]:
                self.check_given(InvalidLength, length, Code, prime, length, 1)
                self.check_given(InvalidLength, length, Code, prime, length, None)

    def test_wrong_symbols(self):
        for length in [1, 2, 7]:
            for symbols in [0, -1, length + 1, length + 2, 10 ** 59, *no_integers()]:
                self.check_given(InvalidSymbols, symbols, Code, 7, length, symbols)

    def test_at_most_64_symbols(self):
        for prime, length in [(67, 65), (67, 67), (997, 997)]:
            self.assertEqual(Code(prime, length, 64).symbols, 64)
            for symbols in [65, 66, length]:
                self.check_given(InvalidSymbols, symbols, Code, prime, length, symbols)
        self.check_given(InvalidSymbols, 64, Code, 67, 63, 64)

    def test_equal_codes(self):
        codes = [Code(*sizes) for sizes in SMALL]
        for one, other in itertools.product(range(len(SMALL)), repeat=2):
            again = Code(*SMALL[other])
            self.assertIs(codes[one] == again, one == other)
            self.assertIs(codes[one] != again, one != other)

    def test_codes_that_differ_in_one_attribute(self):
        code = Code(7, 4, 2)
        for other in [Code(5, 4, 2), Code(7, 5, 2), Code(7, 4, 3), Code(11, 4, 2), Code(7, 3, 2), Code(7, 4, 1)]:
            self.assertIs(code == other, False)
            self.assertIs(other == code, False)
            self.assertIs(code != other, True)

    def test_codes_beside_other_objects(self):
        class Twin:
            prime, length, symbols = 7, 4, 2

        code = Code(7, 4, 2)
        for other in [None, True, 0, 7, "", "Code", (7, 4, 2), [7, 4, 2], {"prime": 7}, Plain(), Twin(), Code, object()]:
            self.assertIs(code == other, False)
            self.assertIs(other == code, False)
            self.assertIs(code != other, True)
            self.assertIs(other != code, True)


class Words(Checks, unittest.TestCase):
    def test_examples(self):
        code = Code(5, 4, 2)
        found = [word(code, (1, 3)), word(code, (4, 0)), agreement(word(code, (1, 3)), word(code, (4, 0)))]
        self.assertEqual(found, [(1, 4, 2, 0), (4, 4, 4, 4), 1])
        found = [is_word(code, (1, 4, 2, 0)), is_word(code, (1, 4, 2, 1)), data_from(code, [(1, 4), (3, 0)])]
        self.assertEqual(found, [True, False, (1, 3)])

    def test_all_words_of_small_codes(self):
        for sizes in SMALL:
            code = Code(*sizes)
            words = all_words(code)
            for data in words:
                self.check_same(words[data], word(code, data))
            listed = list(words.values())
            for value in itertools.product(range(code.prime), repeat=code.length):
                self.assertIs(is_word(code, value), value in listed)

    def test_great_codes(self):
        for sizes in [(997, 997, 64), (997, 997, 1), (67, 67, 64), (67, 64, 64), (61, 61, 61), (997, 1, 1)]:
            code = Code(*sizes)
            data = some_data(code, 5)
            right = reckoned(code, data)
            self.check_same(right, word(code, data))
            self.assertIs(is_word(code, right), True)
            spots = sorted({0, code.length // 2, min(64, code.length - 1), code.length - 1})
            for spot in spots:
                self.assertIs(is_word(code, tuple(changed(code, right, [spot]))), code.length == code.symbols)

    def test_one_symbol_and_as_many_as_places(self):
        for symbol in range(7):
            self.assertEqual(word(Code(7, 5, 1), (symbol,)), (symbol,) * 5)
            self.assertIs(is_word(Code(7, 1, 1), (symbol,)), True)
        code = Code(3, 3, 3)
        for value in itertools.product(range(3), repeat=3):
            self.assertIs(is_word(code, value), True)

    def test_wrong_data(self):
        code = Code(7, 5, 3)
        for data in [*no_tuples(), (), (1, 2), (1, 2, 3, 4), (0,) * 65, [1, 2, 3], "123"]:
            self.check_given(InvalidData, data, word, code, data)

    def test_a_wrong_symbol_at_any_spot(self):
        code = Code(7, 5, 3)
        for spot in range(3):
            for item in [-1, 7, 8, 10 ** 59, *no_integers()]:
                data = (6,) * spot + (item,) + (0,) * (2 - spot)
                self.check_given(InvalidData, data, word, code, data)

    def test_values_that_are_no_words(self):
        code = Code(7, 5, 3)
        right = reckoned(code, (2, 6, 1))
        self.assertIs(is_word(code, right), True)
        endless = []
        endless.append(endless)
        for value in [*no_tuples(), endless, list(right), right[:4], right[:3], right + (0,), (right,), (), (0,) * 1000]:
            self.assertIs(is_word(code, value), False)

    def test_no_word_by_one_item(self):
        code = Code(7, 5, 3)
        for value in [(0,) * 5, (1,) * 5]:
            self.assertIs(is_word(code, value), True)
            for spot in range(5):
                for item in [bool(value[0]), float(value[0]), value[0] + 7, value[0] - 7, str(value[0]), (value[0],), None,
                             Touchy(), Plain(), code, {}, 10 ** 59]:
                    self.assertIs(is_word(code, value[:spot] + (item,) + value[spot + 1:]), False)


class FromPlaces(Checks, unittest.TestCase):
    def test_examples(self):
        code = Code(5, 4, 2)
        found = [fits(code, [(0, 1), (1, 4), (3, 0)]), fits(code, [(0, 2), (1, 4), (3, 0)])]
        self.assertEqual(found, [True, False])
        self.check_count(TooFew, 1, data_from, code, [(2, 2)])

    def test_all_points_of_small_codes(self):
        for sizes in SMALL:
            if sizes == (5, 5, 2):
                continue
            code = Code(*sizes)
            words = all_words(code)
            for points in all_points(code):
                self.check_points(code, words, points)

    def check_points(self, code, words, points):
        fitting = [data for data in words if all(words[data][x] == y for x, y in points)]
        self.check_same(bool(fitting), fits(code, points))
        if len(points) < code.symbols:
            self.check_count(TooFew, len(points), data_from, code, points)
            return
        first = points[:code.symbols]
        right = [data for data in words if all(words[data][x] == y for x, y in first)]
        self.assertEqual(len(right), 1)
        self.check_same(right[0], data_from(code, points))

    def test_great_codes(self):
        for sizes in [(997, 997, 64), (997, 700, 2), (997, 997, 1), (67, 67, 64), (67, 64, 64)]:
            code = Code(*sizes)
            data = some_data(code, 8)
            points = list(enumerate(reckoned(code, data)))
            for part in [points, points[-code.symbols:], points[::-1][:code.symbols][::-1]]:
                self.check_same(data, data_from(code, part))
                self.check_same(data, data_from(code, tuple(part)))
                self.assertIs(fits(code, part), True)
            if code.length > code.symbols:
                for spot in [0, code.symbols - 1, code.symbols, code.length - 1]:
                    self.assertIs(fits(code, changed(code, points, [spot])), False)
            else:
                self.assertIs(fits(code, changed(code, points, [0])), True)

    def test_further_points_need_not_fit(self):
        code = Code(7, 6, 2)
        points = list(enumerate(reckoned(code, (3, 5))))
        for spots in [[2], [5], [3, 4], [2, 3, 4, 5]]:
            wrong = changed(code, points, spots)
            self.check_same((3, 5), data_from(code, wrong))
            self.assertIs(fits(code, wrong), False)
        for spot in [0, 1]:
            self.assertNotEqual(data_from(code, changed(code, points, [spot])), (3, 5))

    def test_too_few(self):
        for code in [Code(7, 7, 4), Code(67, 67, 64), Code(5, 1, 1)]:
            points = list(enumerate(reckoned(code, some_data(code, 2))))
            for count in range(code.symbols):
                self.check_count(TooFew, count, data_from, code, points[:count])
                self.check_count(TooFew, count, data_from, code, tuple(points[-count - 1:-1]))
                self.assertIs(fits(code, points[:count]), True)
            self.assertEqual(data_from(code, points[:code.symbols]), some_data(code, 2))

    def test_any_points_fit_that_are_few(self):
        code = Code(5, 5, 3)
        for points in [[], [(4, 4)], [(0, 4), (4, 0)], [(0, 1), (2, 1), (4, 3)]]:
            self.assertIs(fits(code, points), True)
            self.assertIs(fits(code, tuple(points)), True)


class NoPoints(Checks, unittest.TestCase):
    """What data_from, fits and mended refuse alike."""

    def check_refused(self, code, points):
        for function in (data_from, fits, mended):
            self.check_given(InvalidPoints, points, function, code, points)

    def test_a_wrong_point_at_any_spot(self):
        code = Code(7, 5, 2)
        for spot in range(5):
            for item in WRONG_POINTS:
                points = [(0, 1), (2, 6), (3, 0), (4, 2)]
                points.insert(spot, item)
                self.check_refused(code, points)
                self.check_refused(code, tuple(points))

    def test_a_wrong_point_among_few(self):
        code = Code(7, 5, 2)
        for item in WRONG_POINTS:
            self.check_refused(code, [item])

    def test_places_that_do_not_ascend(self):
        code = Code(7, 5, 2)
        points = list(enumerate(reckoned(code, (3, 5))))
        for order in itertools.permutations(points):
            if list(order) != points:
                self.check_refused(code, list(order))
        for one, other in itertools.combinations(range(5), 2):
            twice = points[:]
            twice[other] = (points[one][0], points[other][1])
            self.check_refused(code, twice)
            self.check_refused(code, [points[one], points[one]])

    def test_places_of_the_prime_beyond_the_code(self):
        code = Code(7, 5, 1)
        self.check_refused(code, [(0, 1), (1, 1), (5, 1)])
        self.check_refused(code, [(6, 1)])
        self.assertEqual(data_from(code, [(4, 6)]), (6,))

    def test_no_list(self):
        for points in no_lists():
            self.check_refused(Code(7, 5, 2), points)


class Agreement(Checks, unittest.TestCase):
    def test_words_of_a_code(self):
        for sizes in [(5, 4, 2), (5, 5, 2), (3, 3, 2), (5, 4, 1), (5, 3, 3), (3, 3, 3)]:
            code = Code(*sizes)
            words = list(all_words(code).values())
            for one, other in itertools.product(words, repeat=2):
                found = agreement(one, other)
                self.check_same(sum(x == y for x, y in zip(one, other)), found)
                self.assertEqual(found >= code.symbols, one == other)

    def test_words_of_none(self):
        great = 10 ** 59
        cases = [((), (), 0), ((0,), (0,), 1), ((0,), (1,), 0), ((great, 1), (great, 2), 1), ((1, 2, 3), (2, 3, 1), 0),
                 ((great, great + 1), (great, great + 1), 2), ((great,), (great + 1,), 0), ((7,) * 2000, (7,) * 2000, 2000),
                 (tuple(range(1000)), tuple(range(1000))[::-1], 0), (tuple(range(999)), tuple(range(999))[::-1], 1),
                 ((2 ** 64, 5), (2 ** 64, 5), 2), ((1, 1, 2), (1, 2, 2), 2)]
        for one, other, wanted in cases:
            self.check_same(wanted, agreement(one, other))
            self.check_same(wanted, agreement(other, one))

    def test_unlike_lengths(self):
        for one, other in [((), (0,)), ((0,), ()), ((1, 2), (1, 2, 3)), ((1, 2, 3), (1, 2)), ((0,) * 64, (0,) * 65)]:
            self.check_given(InvalidData, other, agreement, one, other)

    def test_no_tuples_of_integers(self):
        for value in [*no_tuples(), [0, 0], "00"]:
            self.check_given(InvalidData, value, agreement, value, (0, 0))
            self.check_given(InvalidData, value, agreement, (0, 0), value)

    def test_a_wrong_item_at_any_spot(self):
        for spot in range(3):
            for item in [-1, -10 ** 59, *no_integers()]:
                wrong = (0,) * spot + (item,) + (0,) * (2 - spot)
                self.check_given(InvalidData, wrong, agreement, wrong, (0, 0, 0))
                self.check_given(InvalidData, wrong, agreement, (0, 0, 0), wrong)

    def test_names_the_first_wrong_argument(self):
        for one in [[1], (-1,), None, (True,)]:
            for other in [[2], (-2, 3), None, ()]:
                self.check_given(InvalidData, one, agreement, one, other)


class OneWrongPlace(Checks, unittest.TestCase):
    def test_example(self):
        self.assertEqual(mended(Code(5, 4, 2), [(0, 1), (1, 4), (2, 3), (3, 0)]), (1, 4, 2, 0))

    def test_all_points_of_small_codes(self):
        for sizes in [(3, 3, 1), (5, 3, 1), (5, 4, 1), (5, 4, 2), (5, 5, 3)]:
            code = Code(*sizes)
            words = list(all_words(code).values())
            near = self.words_by_points(code, words)
            for points in all_points(code, code.symbols + 2):
                self.check_mended(code, near.get(tuple(points), []), points)

    def words_by_points(self, code, words):
        """For each tuple of points the words that have all of its symbols but at most one."""
        near = {}
        for row in words:
            for length in range(code.symbols + 2, code.length + 1):
                for places in itertools.combinations(range(code.length), length):
                    for points in self.near_points(code, [(place, row[place]) for place in places]):
                        near.setdefault(points, []).append(row)
        return near

    def near_points(self, code, points):
        out = [tuple(points)]
        for spot, (place, right) in enumerate(points):
            for symbol in range(code.prime):
                if symbol != right:
                    out.append((*points[:spot], (place, symbol), *points[spot + 1:]))
        return out

    def check_mended(self, code, right, points):
        self.assertLessEqual(len(right), 1)
        if right:
            self.check_same(right[0], mended(code, points))
        else:
            self.check_no_word(code, points)

    def check_no_word(self, code, points):
        with self.assertRaises(NoWord) as raised:
            mended(code, points)
        self.assertIs(raised.exception.points, points)

    def test_a_wrong_place_at_each_spot(self):
        for sizes in [(7, 5, 2), (7, 7, 5), (11, 11, 3), (11, 3, 1), (67, 66, 64), (67, 67, 64), (997, 40, 30)]:
            code = Code(*sizes)
            right = reckoned(code, some_data(code, 6))
            points = list(enumerate(right))
            self.check_same(right, mended(code, points))
            self.check_same(right, mended(code, tuple(points)))
            for spot in range(code.length):
                self.check_same(right, mended(code, changed(code, points, [spot])))

    def test_missing_places_are_told_too(self):
        code = Code(11, 10, 3)
        right = reckoned(code, (4, 0, 9))
        for places in itertools.combinations(range(10), 5):
            points = [(place, right[place]) for place in places]
            self.assertEqual(mended(code, points), right)
            for spot in range(5):
                self.assertEqual(mended(code, changed(code, points, [spot])), right)

    def test_two_wrong_places(self):
        for sizes in [(7, 6, 2), (11, 11, 5), (997, 30, 3)]:
            code = Code(*sizes)
            points = list(enumerate(reckoned(code, some_data(code, 4))))
            for one, other in itertools.combinations(range(code.length), 2):
                wrong = changed(code, points, [one, other])
                self.check_no_word(code, wrong)
            whole = tuple(changed(code, points, [0, code.length - 1]))
            self.check_no_word(code, whole)

    def test_too_few(self):
        for sizes in [(7, 7, 3), (5, 2, 1), (5, 3, 3), (5, 3, 2), (67, 67, 64)]:
            code = Code(*sizes)
            points = list(enumerate(reckoned(code, some_data(code, 1))))
            for count in range(min(code.symbols + 2, code.length + 1)):
                self.check_count(TooFew, count, mended, code, points[:count])
            if code.length >= code.symbols + 2:
                self.assertEqual(mended(code, points[:code.symbols + 2]), reckoned(code, some_data(code, 1)))

    def test_too_few_comes_behind_the_points(self):
        code = Code(7, 7, 3)
        self.check_count(TooFew, 0, mended, code, [])
        points = [(1, 1), (0, 1)]
        self.check_given(InvalidPoints, points, mended, code, points)


if __name__ == "__main__":
    unittest.main()
