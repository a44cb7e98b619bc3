"""[2], [8], [9], [10] and the interface: names, arguments, and what calls leave as it was."""

import copy
import importlib
import inspect
import unittest

from checks import Checks, caught
from sparesum.codes import Code, agreement, data_from, fits, is_word, mended, word
from sparesum.errors import InvalidData, InvalidPoints
from sparesum.numbers import evaluate, greatest_prime, inverse, is_prime, least_prime, through

LISTED = {
    "numbers": {"is_prime": ["value"], "least_prime": ["number"], "greatest_prime": ["number"],
                "inverse": ["prime", "number"], "evaluate": ["prime", "data", "place"], "through": ["prime", "points"]},
    "codes": {"Code": ["prime", "length", "symbols"], "word": ["code", "data"], "is_word": ["code", "value"],
              "data_from": ["code", "points"], "fits": ["code", "points"], "agreement": ["one", "other"],
              "mended": ["code", "points"]},
}


def calls():
    """A call of each function that raises nothing, its arguments in the order of the interface, and its result."""
    code = Code(5, 4, 2)
    points = [(0, 1), (1, 4), (2, 2), (3, 1)]
    return [
        (is_prime, [91], False), (least_prime, [8], 11), (greatest_prime, [8], 7), (inverse, [7, 3], 5),
        (evaluate, [7, (3, 1, 2), 2], 6), (through, [7, [(2, 6), (0, 3), (1, 6)]], (3, 1, 2)),
        (Code, [5, 4, 2], code), (word, [code, (1, 3)], (1, 4, 2, 0)), (is_word, [code, (1, 4, 2, 1)], False),
        (data_from, [code, points], (1, 3)), (fits, [code, points], False),
        (agreement, [(1, 4, 2, 0), (4, 4, 4, 4)], 1), (mended, [code, points], (1, 4, 2, 0)),
    ]


def wrong_calls():
    """Calls that raise an error, some of them with lists that could be changed."""
    code = Code(5, 4, 2)
    return [
        (is_prime, [["x", [7]]]), (least_prime, [[1, [2]]]), (greatest_prime, [{"a": [1]}]), (inverse, [[7], [1]]),
        (inverse, [7, [1]]), (evaluate, [7, [1, 2], 0]), (evaluate, [7, (1,), [0]]), (through, [7, [(1, 1), [2, 2]]]),
        (through, [7, [(3, 1), (1, 1), (3, 1)]]), (Code, [5, [4], [2]]), (word, [code, [1, 3]]),
        (is_word, [code, [1, 4, 2, 0]]), (data_from, [code, [(1, 1), (0, 2)]]), (data_from, [code, [(1, 1)]]),
        (fits, [code, [(1, 1), (0, 2)]]), (agreement, [[1, 2], [2, 1]]), (mended, [code, [(0, 1), (1, 4)]]),
        (mended, [code, [(0, 1), (1, 2), (2, 2), (3, 0)]]),
    ]


class Interface(Checks, unittest.TestCase):
    def test_all_is_defined_where_it_is_listed(self):
        for file, names in LISTED.items():
            module = importlib.import_module("sparesum." + file)
            for name, parameters in names.items():
                thing = getattr(module, name)
                self.assertEqual(thing.__module__, "sparesum." + file)
                self.assertEqual(list(inspect.signature(thing).parameters), parameters)
        self.assertIn("__eq__", vars(Code))

    def test_each_listed_name_is_called_here(self):
        called = {function.__name__ for function, _, _ in calls()}
        self.assertEqual(called, {name for names in LISTED.values() for name in names})

    def test_by_position_and_by_name(self):
        for function, values, wanted in calls():
            names = list(inspect.signature(function).parameters)
            self.check_same(wanted, function(*values))
            self.check_same(wanted, function(**dict(zip(names, values))))
            self.check_same(wanted, function(**dict(reversed(list(zip(names, values))))))
            self.check_same(wanted, function(*values[:1], **dict(list(zip(names, values))[1:])))

    def test_errors_by_position_and_by_name(self):
        for function, values in wrong_calls():
            names = list(inspect.signature(function).parameters)
            one, other = caught(function, *values), caught(function, **dict(zip(names, values)))
            self.assertIs(type(one), type(other))
            if one is not None:
                self.assertEqual(vars(one), vars(other))

    def test_tuples_in_the_place_of_lists(self):
        for function, values, wanted in calls():
            whole = [tuple(value) if isinstance(value, list) else value for value in values]
            self.check_same(wanted, function(*whole))

    def test_a_list_in_the_place_of_a_tuple(self):
        code = Code(5, 4, 2)
        for function, error_class, before, wrong, behind in [
                (evaluate, InvalidData, [7], [3, 1, 2], [2]), (word, InvalidData, [code], [1, 3], []),
                (agreement, InvalidData, [], [1], [(1,)]), (agreement, InvalidData, [(1,)], [1], []),
                (through, InvalidPoints, [7], [[2, 6]], []), (through, InvalidPoints, [7], ((0, 1), [2, 6]), []),
                (data_from, InvalidPoints, [code], [(0, 1), [1, 4]], []),
                (fits, InvalidPoints, [code], [[0, 1], (1, 4)], []),
                (mended, InvalidPoints, [code], [(0, 1), (1, 4), [2, 2], (3, 0)], [])]:
            self.check_given(error_class, wrong, function, *before, wrong, *behind)
        self.assertIs(is_word(code, [1, 4, 2, 0]), False)

    def test_arguments_stay_as_they_were(self):
        for function, values in [(function, values) for function, values, _ in calls()] + wrong_calls():
            kept = copy.deepcopy(values)
            inner = [list(value) if isinstance(value, list) else None for value in values]
            caught(function, *values)
            self.assertEqual(values, kept)
            for value, items in zip(values, inner):
                if items is not None:
                    self.assertTrue(all(one is other for one, other in zip(value, items)))

    def test_equal_results_on_each_call(self):
        rows = calls()
        for _ in range(3):
            for function, values, wanted in rows:
                self.check_same(wanted, function(*values))
        for function, values in wrong_calls():
            one, other = caught(function, *values), caught(function, *values)
            self.assertIs(type(one), type(other))
            if one is not None:
                self.assertEqual(vars(one), vars(other))

    def test_codes_are_not_changed(self):
        code = Code(5, 4, 2)
        for function, values in [(function, values) for function, values, _ in calls()] + wrong_calls():
            if values and isinstance(values[0], Code):
                caught(function, code, *values[1:])
                self.assertEqual(vars(code), {"prime": 5, "length": 4, "symbols": 2})


if __name__ == "__main__":
    unittest.main()
