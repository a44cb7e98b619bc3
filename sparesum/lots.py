"""Lots, which are sets of as many records as may change at once, and the words of heads that tell them."""

from math import comb

from sparesum.arrays import head_code
from sparesum.codes import data_from, word
from sparesum.errors import InvalidHeads, InvalidLot, InvalidNumber, InvalidRecords, TooFew
from sparesum.shapes import are_ascending_numbers, are_ascending_points, is_between


def is_lot(array, value):
    return are_ascending_numbers(value, array.records) and len(value) == array.changes


def lot_at(array, number):
    if not is_between(number, 0, array.lots - 1):
        raise InvalidNumber(number)
    lot = []
    record = 0
    left = number
    while len(lot) < array.changes:
        # So many lots go on with this record; all of them come ahead of those that go on with a greater one.
        count = comb(array.records - record - 1, array.changes - len(lot) - 1)
        if left < count:
            lot.append(record)
        else:
            left -= count
        record += 1
    return lot


def lot_number(array, lot):
    if not is_lot(array, lot):
        raise InvalidLot(lot)
    # For each record the lots behind this one that have the same records ahead of it, and a greater one there.
    behind = [comb(array.records - record - 1, array.changes - index) for index, record in enumerate(lot)]
    return array.lots - 1 - sum(behind)


def lot_for(array, records):
    if not are_ascending_numbers(records, array.records) or len(records) > array.changes:
        raise InvalidRecords(records)
    others = [record for record in range(array.records) if record not in records]
    return sorted([*records, *others[:array.changes - len(records)]])


def head_word(array, lot):
    number = lot_number(array, lot)
    if array.symbols < 2:
        # With one lot its number is 0, so that each head has 1.
        return (number + 1,) * array.heads
    symbols = word(head_code(array), _figures(array, number))
    return tuple([symbol + 1 for symbol in symbols])


def lot_of(array, points):
    if not are_ascending_points(points, array.heads, array.contents) or 0 in [point[1] for point in points]:
        raise InvalidHeads(points)
    if len(points) < array.symbols:
        raise TooFew(len(points))
    return lot_at(array, _told_number(array, points) % array.lots)


def _figures(array, number):
    """The figures of a number to the base of the array's prime, as many as symbols, the highest first."""
    figures = []
    left = number
    for _ in range(array.symbols):
        figures.append(left % array.prime)
        left //= array.prime
    return tuple(reversed(figures))


def _told_number(array, points):
    """The number that contents of heads stand for; there may be no lot that has it."""
    if array.symbols == 0:
        return 0
    if array.symbols == 1:
        return points[0][1] - 1
    symbols = [(head, (content - 1) % array.prime) for head, content in points]
    number = 0
    for figure in data_from(head_code(array), symbols):
        number = number * array.prime + figure
    return number
