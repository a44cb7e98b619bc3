"""[22], [23], [24]: primes, reckoning, and data through points."""

import itertools
import unittest

from checks import Checks, no_integers, no_lists
from sparesum.errors import InvalidData, InvalidNumber, InvalidPlace, InvalidPoints, InvalidPrime
from sparesum.numbers import evaluate, greatest_prime, inverse, is_prime, least_prime, through

PRIMES = [n for n in range(2, 998) if [d for d in range(1, n + 1) if n % d == 0] == [1, n]]
NO_PRIMES = [-997, -7, -2, -1, 0, 1, 4, 9, 91, 961, 995, 996, 998, 999, 1009, 10007, 2 ** 61 - 1, 10 ** 59]


def reckoned(prime, data, place):
    """The sum of [23], word by word; Python has 0 ** 0 as 1, too."""
    return sum(data[i] * place ** i for i in range(len(data))) % prime


def some_data(prime, length, seed):
    return tuple((seed * seed + 31 * i * i * seed + 17 * i + 5) % prime for i in range(length))


class Primes(Checks, unittest.TestCase):
    def test_examples(self):
        found = [is_prime(2), is_prime(91), is_prime(997), least_prime(8), greatest_prime(8), inverse(7, 3)]
        self.assertEqual(found, [True, False, True, 11, 7, 5])

    def test_all_integers_to_beyond_the_last(self):
        for number in range(-1100, 2100):
            self.check_same(number in PRIMES, is_prime(number))

    def test_how_many(self):
        self.assertEqual(sum(is_prime(number) for number in range(1000)), 168)

    def test_great_integers(self):
        for number in [1009, 7919, 2 ** 31 - 1, 2 ** 61 - 1, 10 ** 59, 10 ** 59 + 7, -10 ** 59, 10 ** 3000 + 7]:
            self.check_same(False, is_prime(number))

    def test_other_values(self):
        endless = []
        endless.append(endless)
        for value in [*no_integers(), endless, "2", "7", [2], (2,), {"2": 2}, 2.0]:
            self.check_same(False, is_prime(value))

    def test_least_prime(self):
        for number in range(2, 998):
            self.check_same(min(p for p in PRIMES if p >= number), least_prime(number))

    def test_greatest_prime(self):
        for number in range(3, 999):
            self.check_same(max(p for p in PRIMES if p < number), greatest_prime(number))

    def test_ends(self):
        found = [least_prime(2), least_prime(996), least_prime(997), greatest_prime(3), greatest_prime(4),
                 greatest_prime(997), greatest_prime(998)]
        self.assertEqual(found, [2, 997, 997, 2, 3, 991, 997])

    def test_beyond_the_ends(self):
        for number in [1, 0, -1, -2, -997, 998, 999, 1009, 10 ** 59, -10 ** 59, *no_integers()]:
            self.check_given(InvalidNumber, number, least_prime, number)
        for number in [2, 1, 0, -1, -3, -997, 999, 1000, 10 ** 59, -10 ** 59, *no_integers()]:
            self.check_given(InvalidNumber, number, greatest_prime, number)


class Reckoning(Checks, unittest.TestCase):
    def test_inverse(self):
        for prime in [2, 3, 5, 7, 11, 31, 101, 991, 997]:
            for number in range(1, prime):
                found = inverse(prime, number)
                self.assertIs(type(found), int)
                self.assertTrue(0 <= found < prime)
                self.assertEqual(found * number % prime, 1)

    def test_inverse_of_wrong_primes(self):
        for prime in [*NO_PRIMES, *no_integers()]:
            self.check_given(InvalidPrime, prime, inverse, prime, 1)

    def test_inverse_of_wrong_numbers(self):
        for prime in [2, 3, 7, 997]:
            for number in [0, -1, 1 - prime, -prime, prime, prime + 1, 2 * prime, 10 ** 59, *no_integers()]:
                self.check_given(InvalidNumber, number, inverse, prime, number)

    def test_inverse_names_the_prime_first(self):
        for prime in [1, 4, 998, True, None, "7"]:
            for number in [0, 999, True, None, "1"]:
                self.check_given(InvalidPrime, prime, inverse, prime, number)

    def test_evaluate_examples(self):
        found = [evaluate(7, (3, 1, 2), 2), evaluate(7, (3, 1, 2), 0), evaluate(5, (), 4)]
        self.assertEqual(found, [6, 3, 0])

    def test_evaluate_all_small_data(self):
        for prime, longest in [(2, 4), (3, 3), (5, 2)]:
            for length in range(longest + 1):
                for data in itertools.product(range(prime), repeat=length):
                    for place in range(prime):
                        self.check_same(reckoned(prime, data, place), evaluate(prime, data, place))

    def test_evaluate_long_data(self):
        for prime in [2, 3, 7, 61, 67, 991, 997]:
            for length in [1, 2, 3, 10, 63, 64]:
                data = some_data(prime, length, prime + length)
                for place in sorted({0, 1, 2 % prime, prime // 2, prime - 1}):
                    self.check_same(reckoned(prime, data, place), evaluate(prime, data, place))

    def test_evaluate_at_place_0(self):
        for prime in [2, 5, 997]:
            self.assertEqual(evaluate(prime, (prime - 1,), 0), prime - 1)
            self.assertEqual(evaluate(prime, (prime - 1,) * 64, 0), prime - 1)
            self.assertEqual(evaluate(prime, (), 0), 0)

    def test_evaluate_wrong_primes(self):
        for prime in [*NO_PRIMES, *no_integers()]:
            self.check_given(InvalidPrime, prime, evaluate, prime, (), 0)

    def test_evaluate_wrong_data(self):
        wrong = [None, True, 0, "", "12", [], [1], [1, 2], {}, {"a": 1}, object(), (0,) * 65, (0,) * 66, (0,) * 1000]
        for data in wrong:
            self.check_given(InvalidData, data, evaluate, 7, data, 0)

    def test_evaluate_a_wrong_symbol_at_any_spot(self):
        for length in [1, 2, 5, 64]:
            for spot in range(length):
                for item in [-1, 7, 8, True, False, None, "1", (1,), [1], 1.0, 10 ** 59]:
                    data = (6,) * spot + (item,) + (0,) * (length - spot - 1)
                    self.check_given(InvalidData, data, evaluate, 7, data, 0)

    def test_evaluate_wrong_places(self):
        for prime in [2, 7, 997]:
            for place in [-1, -prime, prime, prime + 1, 10 ** 59, *no_integers()]:
                self.check_given(InvalidPlace, place, evaluate, prime, (1,), place)
                self.check_given(InvalidPlace, place, evaluate, prime, (), place)

    def test_evaluate_names_the_first_wrong_argument(self):
        for data in [[1], (9,), None, (0,) * 65]:
            for place in [-1, 7, None, True]:
                self.check_given(InvalidData, data, evaluate, 7, data, place)
                self.check_given(InvalidPrime, 6, evaluate, 6, data, place)
        self.check_given(InvalidPrime, 4, evaluate, 4, (1,), 9)


class ThroughPoints(Checks, unittest.TestCase):
    def test_examples(self):
        self.assertEqual([through(7, [(2, 6), (0, 3), (1, 6)]), through(5, [])], [(3, 1, 2), ()])
        points = [(2, 6), (2, 6)]
        self.check_given(InvalidPoints, points, through, 7, points)

    def test_just_one(self):
        for prime, longest in [(2, 2), (3, 3), (5, 2)]:
            for length in range(longest + 1):
                for places in itertools.permutations(range(prime), length):
                    for symbols in itertools.product(range(prime), repeat=length):
                        self.check_just_one(prime, list(zip(places, symbols)))

    def check_just_one(self, prime, points):
        all_data = itertools.product(range(prime), repeat=len(points))
        right = [data for data in all_data if all(reckoned(prime, data, x) == y for x, y in points)]
        self.assertEqual(len(right), 1)
        self.check_same(right[0], through(prime, points))

    def test_any_order(self):
        data = (4, 0, 6, 1)
        points = [(place, reckoned(7, data, place)) for place in [0, 2, 5, 6]]
        for order in itertools.permutations(points):
            self.check_same(data, through(7, list(order)))
            self.check_same(data, through(7, order))

    def test_zeros_at_the_end_stay(self):
        self.assertEqual(through(5, [(0, 0), (1, 0), (4, 0)]), (0, 0, 0))
        self.assertEqual(through(5, [(3, 2), (1, 2)]), (2, 0))
        self.assertEqual(through(997, [(i, i) for i in range(64)]), (0, 1) + (0,) * 62)
        self.assertEqual(through(2, [(1, 0)]), (0,))

    def test_64_points(self):
        for prime in [67, 101, 997]:
            data = some_data(prime, 64, prime)
            for places in [range(64), range(prime - 1, prime - 65, -1), [(i * 29 + 3) % prime for i in range(64)]]:
                points = [(place, reckoned(prime, data, place)) for place in places]
                self.check_same(data, through(prime, points))

    def test_65_points(self):
        for count in [65, 66, 67]:
            points = [(place, 1) for place in range(count)]
            self.check_given(InvalidPoints, points, through, 67, points)
            self.check_given(InvalidPoints, points, through, 997, points)
            whole = tuple(points)
            self.check_given(InvalidPoints, whole, through, 997, whole)

    def test_all_places_of_a_small_prime(self):
        for prime in [2, 3, 5, 61]:
            data = some_data(prime, prime, 3)
            self.check_same(data, through(prime, [(i, reckoned(prime, data, i)) for i in reversed(range(prime))]))

    def test_a_place_that_stands_twice(self):
        for first, second in itertools.combinations(range(5), 2):
            for symbol in [1, 2]:
                points = [(place, 1) for place in [6, 3, 0, 1, 4]]
                points[second] = (points[first][0], symbol)
                self.check_given(InvalidPoints, points, through, 7, points)

    def test_a_wrong_point_at_any_spot(self):
        wrong = [None, True, 3, "", "12", [2, 1], [], (), (2,), (2, 1, 0), (-1, 0), (0, -1), (7, 0), (0, 7), (True, 0),
                 (0, False), (None, 0), (2, None), ("2", 1), (2, "1"), ((2,), 1), (2, (1,)), {"a": 1}, (2, 10 ** 59),
                 (10 ** 59, 2), object()]
        for spot in range(4):
            for item in wrong:
                points = [(3, 0), (6, 6), (5, 1)]
                points.insert(spot, item)
                self.check_given(InvalidPoints, points, through, 7, points)
                whole = tuple(points)
                self.check_given(InvalidPoints, whole, through, 7, whole)

    def test_no_list(self):
        for points in no_lists():
            self.check_given(InvalidPoints, points, through, 7, points)

    def test_wrong_primes(self):
        for prime in [*NO_PRIMES, *no_integers()]:
            self.check_given(InvalidPrime, prime, through, prime, [])
        for points in [None, [(0, 9)], [[0, 1]]]:
            self.check_given(InvalidPrime, 9, through, 9, points)


if __name__ == "__main__":
    unittest.main()
