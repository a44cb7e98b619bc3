"""Numbers modulo a prime: primes, remainders, data through points; and powers.

The functions at the end ask nothing of their arguments, so that other modules can use them for what they have judged.
"""

from sparesum.errors import InvalidData, InvalidNumber, InvalidPlace, InvalidPoints, InvalidPrime
from sparesum.shapes import are_points, is_between, is_tuple_below

GREATEST_PRIME = 997
MOST_SYMBOLS = 64


def is_prime(value):
    if not is_between(value, 2, GREATEST_PRIME):
        return False
    divisor = 2
    while divisor * divisor <= value:
        if value % divisor == 0:
            return False
        divisor += 1
    return True


def least_prime(number):
    if not is_between(number, 2, GREATEST_PRIME):
        raise InvalidNumber(number)
    found = number
    while not is_prime(found):
        found += 1
    return found


def greatest_prime(number):
    if not is_between(number, 3, GREATEST_PRIME + 1):
        raise InvalidNumber(number)
    found = number - 1
    while not is_prime(found):
        found -= 1
    return found


def inverse(prime, number):
    if not is_prime(prime):
        raise InvalidPrime(prime)
    if not is_between(number, 1, prime - 1):
        raise InvalidNumber(number)
    return inverted(prime, number)


def evaluate(prime, data, place):
    if not is_prime(prime):
        raise InvalidPrime(prime)
    if not is_tuple_below(data, prime) or len(data) > MOST_SYMBOLS:
        raise InvalidData(data)
    if not is_between(place, 0, prime - 1):
        raise InvalidPlace(place)
    return symbol_at(prime, data, place)


def through(prime, points):
    if not is_prime(prime):
        raise InvalidPrime(prime)
    if not _have_different_places(prime, points) or len(points) > MOST_SYMBOLS:
        raise InvalidPoints(points)
    return data_through(prime, points)


def _have_different_places(prime, points):
    return are_points(points, prime, prime) and len({point[0] for point in points}) == len(points)


def power(base, exponent):
    total = 1
    for _ in range(exponent):
        total *= base
    return total


def inverted(prime, number):
    # prime = times * number + rest, so the inverse of the number is that of the rest, times -times.
    factor = 1
    while number > 1:
        factor = -factor * (prime // number) % prime
        number = prime % number
    return factor


def symbol_at(prime, data, place):
    total = 0
    for figure in reversed(data):
        total = (total * place + figure) % prime
    return total


def data_through(prime, points):
    data = []
    # The base is 0 at each place that has been taken in, so adding it changes nothing there.
    base = [1]
    for place, symbol in points:
        missing = symbol - symbol_at(prime, data, place)
        factor = missing * inverted(prime, symbol_at(prime, base, place))
        data = [(one + factor * other) % prime for one, other in zip([*data, 0], base)]
        base = [(one - place * other) % prime for one, other in zip([0, *base], [*base, 0])]
    return tuple(data)
