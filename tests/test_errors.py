"""Tests of fewtell.errors: points [2] and the section on the errors."""

import unittest

from fewtell import errors

FEW_ERRORS = {
    "InvalidName": "name", "InvalidPart": "index", "InvalidTrait": "index", "InvalidPerson": "given",
    "InvalidEntry": "given", "InvalidNumber": "given", "InvalidRow": "index", "InvalidProgram": "path",
    "TooWide": "most", "TooLarge": "most", "TooMany": "most", "InvalidWeb": "given", "InvalidWave": "index",
    "InvalidSight": "index", "UnlikeWorlds": None, "HasWishes": None, "Unseen": "web", "Barred": "web",
    "NotSquare": None, "NotBelow": None, "InvalidDrawing": "index", "NotTold": "given", "DuplicateName": "name",
    "InvalidText": "position", "InvalidPage": "line",
}
PARAMETERS = {**FEW_ERRORS, "UnknownName": "name", "NothingLeft": None}
BASES = {"FewError": ValueError, "Missing": LookupError, "UnknownName": errors.Missing, "NothingLeft": IndexError}
BASES.update({name: errors.FewError for name in FEW_ERRORS})

VALUES = [
    None, True, False, 0, 1, -7, 10 ** 31 - 1, "", "north", "two\nlines of ~ text", (), (0, 4, 17), [], [1, True],
    (("f", ((0, 1), (0, 2))), -3), [[None, ["a", (False,)]], (2,)], (1, (2, (3, (4, (5, (6, (7, (8, ())))))))),
]


class TestParameters(unittest.TestCase):
    def check(self, name, error, value):
        self.assertIsInstance(error, getattr(errors, name))
        kept = getattr(error, PARAMETERS[name])
        self.assertEqual(kept, value)
        # True equals 1, so that the words are compared, too.
        self.assertEqual(repr(kept), repr(value))
        self.assertEqual(error.code, name)

    def test_by_position_and_by_name(self):
        for name, parameter in PARAMETERS.items():
            if parameter is None:
                continue
            for value in VALUES:
                with self.subTest(name=name, value=value):
                    self.check(name, getattr(errors, name)(value), value)
                    self.check(name, getattr(errors, name)(**{parameter: value}), value)

    def test_without_parameters(self):
        for name, parameter in PARAMETERS.items():
            if parameter is None:
                with self.subTest(name=name):
                    self.assertEqual(getattr(errors, name)().code, name)

    def test_the_argument_is_not_changed(self):
        value = [1, [2, (3, [4])]]
        errors.InvalidPerson(value)
        self.assertEqual(value, [1, [2, (3, [4])]])

    def test_lists_are_copied(self):
        for name, parameter in PARAMETERS.items():
            if parameter is None:
                continue
            inner, deep = [2], [4]
            value = [1, inner, (3, deep)]
            with self.subTest(name=name):
                error = getattr(errors, name)(value)
                value.append(0)
                inner.append(0)
                deep.append(0)
                self.assertEqual(getattr(error, parameter), [1, [2], (3, [4])])

    def test_two_errors_keep_their_own_values(self):
        one, other = errors.InvalidRow(1), errors.InvalidRow(2)
        self.assertEqual([one.index, other.index], [1, 2])

    def test_raised_and_caught(self):
        for name, parameter in PARAMETERS.items():
            values = [] if parameter is None else [(0, 1)]
            with self.subTest(name=name), self.assertRaises(BASES[name]) as caught:
                raise getattr(errors, name)(*values)
            self.assertEqual(caught.exception.code, name)


class TestBases(unittest.TestCase):
    def test_direct_base_classes(self):
        for name, base in BASES.items():
            with self.subTest(name=name):
                self.assertEqual(getattr(errors, name).__bases__, (base,))

    def test_names_of_the_classes(self):
        for name in BASES:
            with self.subTest(name=name):
                self.assertEqual(getattr(errors, name).__name__, name)

    def test_no_other_class_is_a_subclass(self):
        for name in BASES:
            for other in BASES:
                with self.subTest(name=name, other=other):
                    wanted = name == other or getattr(errors, other) == BASES[name]
                    self.assertEqual(issubclass(getattr(errors, name), getattr(errors, other)), wanted)

    def test_errors_of_python(self):
        self.assertFalse(issubclass(errors.FewError, LookupError))
        self.assertFalse(issubclass(errors.UnknownName, (ValueError, IndexError, KeyError)))
        self.assertFalse(issubclass(errors.NothingLeft, (ValueError, KeyError)))


if __name__ == "__main__":
    unittest.main()
