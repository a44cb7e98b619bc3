"""Codes: words of which any so many places tell the data."""

from sparesum.errors import InvalidData, InvalidLength, InvalidPoints, InvalidPrime, InvalidSymbols, NoWord, TooFew
from sparesum.numbers import MOST_SYMBOLS, data_through, is_prime, symbol_at
from sparesum.shapes import are_ascending_points, is_between, is_integer, is_tuple_below


class Code:
    """Words of `length` places with symbols below `prime`, for data of `symbols` symbols."""

    def __init__(self, prime, length, symbols):
        if not is_prime(prime):
            raise InvalidPrime(prime)
        if not is_between(length, 1, prime):
            raise InvalidLength(length)
        if not is_between(symbols, 1, min(length, MOST_SYMBOLS)):
            raise InvalidSymbols(symbols)
        self.prime = prime
        self.length = length
        self.symbols = symbols

    def __eq__(self, other):
        return (isinstance(other, Code) and self.prime == other.prime
                and self.length == other.length and self.symbols == other.symbols)


def word(code, data):
    if not is_tuple_below(data, code.prime) or len(data) != code.symbols:
        raise InvalidData(data)
    return _word_of(code, data)


def is_word(code, value):
    if not is_tuple_below(value, code.prime) or len(value) != code.length:
        return False
    return _fit(code, list(enumerate(value)))


def data_from(code, points):
    if not _are_points_of(code, points):
        raise InvalidPoints(points)
    if len(points) < code.symbols:
        raise TooFew(len(points))
    return data_through(code.prime, points[:code.symbols])


def fits(code, points):
    if not _are_points_of(code, points):
        raise InvalidPoints(points)
    return _fit(code, points)


def agreement(one, other):
    if not _is_tuple_of_counts(one):
        raise InvalidData(one)
    if not _is_tuple_of_counts(other) or len(other) != len(one):
        raise InvalidData(other)
    return len([place for place, symbol in enumerate(one) if symbol == other[place]])


def mended(code, points):
    if not _are_points_of(code, points):
        raise InvalidPoints(points)
    if len(points) < code.symbols + 2:
        raise TooFew(len(points))
    # The first try leaves out the point just behind the first ones: it is right unless one of these is wrong.
    # Such a one is then the only wrong point, and the try that leaves it out takes right points only.
    for left_out in range(code.symbols, -1, -1):
        others = [*points[:left_out], *points[left_out + 1:]]
        data = data_through(code.prime, others[:code.symbols])
        if _misses_at_most_one(code, data, points):
            return _word_of(code, data)
    raise NoWord(points)


def _word_of(code, data):
    return tuple([symbol_at(code.prime, data, place) for place in range(code.length)])


def _are_points_of(code, points):
    return are_ascending_points(points, code.length, code.prime)


def _fit(code, points):
    data = data_through(code.prime, points[:code.symbols])
    further = points[code.symbols:]
    return all([symbol_at(code.prime, data, place) == symbol for place, symbol in further])


def _misses_at_most_one(code, data, points):
    misses = 0
    for place, symbol in points:
        if symbol_at(code.prime, data, place) != symbol:
            misses += 1
        if misses > 1:
            return False
    return True


def _is_tuple_of_counts(value):
    return isinstance(value, tuple) and all([is_integer(item) and item >= 0 for item in value])
