"""What several test files need: wrong values, and the errors that they have to bring."""

from sparesum.codes import Code


class Plain:
    """An object of no class of the package."""


class Touchy:
    """An object that cannot be compared, counted or iterated over."""

    def __eq__(self, other):
        raise RuntimeError("compared")

    def __lt__(self, other):
        raise RuntimeError("ordered")

    def __len__(self):
        raise RuntimeError("counted")

    def __iter__(self):
        raise RuntimeError("iterated over")


def no_integers():
    """Values of all kinds, none of which is an integer."""
    return [None, True, False, "", "7", "prime", [], [7], (), (7,), {}, {"a": 7}, 7.0, b"7", {7}, Plain(), Touchy(),
            Code(7, 3, 2), [[7]], ((7,),), int, len]


def no_tuples():
    """Values of all kinds, none of which is a tuple."""
    return [None, True, False, 0, 7, "", "12", [], [1, 2], [[1, 2]], {}, {"a": 1}, b"12", {1}, Plain(), Touchy(),
            Code(7, 3, 2), tuple, 10 ** 59]


def no_lists():
    """Values of all kinds, none of which is a list or a tuple."""
    return [value for value in no_tuples() if not isinstance(value, list)]


def caught(function, *values, **named):
    """The error that a call raises, or None."""
    try:
        function(*values, **named)
    except ValueError as error:
        return error
    return None


def classes_of(value):
    """The class of a value, and of all that is in it if it is a list or a tuple."""
    if isinstance(value, (list, tuple)):
        return [type(value), *map(classes_of, value)]
    return type(value)


def lists_of(value):
    """The lists that a value has within it, this one too, each as often as it stands there."""
    found = [value] if isinstance(value, list) else []
    for item in value if isinstance(value, (list, tuple)) else []:
        found.extend(lists_of(item))
    return found


class Checks:
    """Checks for test cases, by inheritance."""

    def check_given(self, error_class, given, function, *values, **named):
        """The call raises just this error, and its `given` is this very object."""
        error = caught(function, *values, **named)
        self.assertIs(type(error), error_class, (function, values, named))
        self.assertIs(error.given, given)

    def check_count(self, error_class, count, function, *values):
        """The call raises just this error with this count."""
        error = caught(function, *values)
        self.assertIs(type(error), error_class, (function, values))
        self.assertIs(type(error.count), int)
        self.assertEqual(error.count, count)

    def check_same(self, wanted, found):
        """The value is equal, and of the same classes all through: True is no integer and a list no tuple."""
        self.assertEqual(found, wanted)
        self.assertEqual(classes_of(found), classes_of(wanted))

    def check_new_lists(self, function, *values):
        """The lists of the result are new on each call, and none stands at two places; tells the first result."""
        first, second = function(*values), function(*values)
        self.assertEqual(first, second)
        lists = lists_of(first) + lists_of(second)
        self.assertEqual(len({id(one) for one in lists}), len(lists))
        self.assertFalse({id(one) for one in lists} & {id(one) for value in values for one in lists_of(value)})
        return first
