"""[9], [21] and the interface's list of the error classes."""

import unittest

from sparesum import errors

GIVEN = """InvalidNumber InvalidPrime InvalidData InvalidPlace InvalidPoints InvalidLength InvalidSymbols InvalidDisks
InvalidLost InvalidRecords InvalidChanges InvalidContents InvalidLot InvalidHeads InvalidDisk InvalidBlock
InvalidContent InvalidLeft InvalidView InvalidTold InvalidWish InvalidEvents InvalidKind InvalidPending InvalidValue
InvalidBlocks InvalidEntries InvalidRests InvalidPaths InvalidGroups InvalidNames InvalidText""".split()

ATTRIBUTES = {name: "given" for name in GIVEN}
ATTRIBUTES.update({
    "TooMany": "count", "TooFew": "count", "NoWord": "points", "NoHeads": "lots", "TooManyLost": "count",
    "NotLost": "disk", "IsLost": "disk", "NotLeft": "item", "Busy": "work", "Broken": "value", "BadLine": "at"})
BARE = ["NotOpen", "NoWork", "NothingToUndo", "NothingToRedo"]


def any_values():
    return [None, True, 0, -1, 10 ** 59, "", "text {} of", [], [1, [2]], (), (1, [2]), {}, {"a": [1]}, object(),
            ValueError("x"), errors.NotOpen()]


class ErrorClasses(unittest.TestCase):
    def test_bases(self):
        self.assertEqual(errors.SumError.__bases__, (ValueError,))
        for name in [*ATTRIBUTES, *BARE]:
            self.assertEqual(getattr(errors, name).__bases__, (errors.SumError,), name)

    def test_the_file_defines_just_these(self):
        listed = ["SumError", *ATTRIBUTES, *BARE]
        found = [name for name, value in vars(errors).items() if isinstance(value, type)]
        self.assertEqual(sorted(found), sorted(listed))
        for name in listed:
            self.assertEqual(getattr(errors, name).__module__, "sparesum.errors")
            self.assertEqual(getattr(errors, name).__name__, name)

    def test_attributes_by_position_and_by_name(self):
        for name, attribute in ATTRIBUTES.items():
            error_class = getattr(errors, name)
            for value in any_values():
                self.assertIs(getattr(error_class(value), attribute), value, name)
                self.assertIs(getattr(error_class(**{attribute: value}), attribute), value, name)

    def test_a_kept_list_grows_with_the_callers(self):
        for name, attribute in ATTRIBUTES.items():
            for by_name in (False, True):
                rows = [1]
                error_class = getattr(errors, name)
                error = error_class(**{attribute: rows}) if by_name else error_class(rows)
                rows.append([2])
                self.assertIs(getattr(error, attribute), rows)
                self.assertEqual(getattr(error, attribute), [1, [2]])

    def test_without_values(self):
        for name in ["SumError", *BARE]:
            error = getattr(errors, name)()
            self.assertIsInstance(error, errors.SumError)
            self.assertEqual(vars(error), {}, name)

    def test_no_other_attribute(self):
        for name, attribute in ATTRIBUTES.items():
            self.assertEqual(list(vars(getattr(errors, name)(5))), [attribute])

    def test_raised_and_caught(self):
        for name in [*ATTRIBUTES, *BARE]:
            values = [5] if name in ATTRIBUTES else []
            for caught_as in (getattr(errors, name), errors.SumError, ValueError):
                with self.assertRaises(caught_as):
                    raise getattr(errors, name)(*values)

    def test_no_error_is_caught_as_another(self):
        for name in [*ATTRIBUTES, *BARE]:
            for other in [*ATTRIBUTES, *BARE]:
                same = issubclass(getattr(errors, name), getattr(errors, other))
                self.assertEqual(same, name == other)


if __name__ == "__main__":
    unittest.main()
