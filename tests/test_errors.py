"""The section lookingnets/errors.py of the interface."""

import inspect
import unittest

from lookingnets import errors
from lookingnets.errors import (
    BadChange, BadChart, BadDeed, BadLine, BadNet, BadPair, BadText, BadValue, Broken, Full,
    Missing, NetError, NoName, NoText, NothingLeft, TooLong, TooMany, Twice,
)
from tests.kinds import any_values

ROOTS = [(NetError, ValueError), (Missing, LookupError), (Full, RuntimeError)]
RAISED = [
    (BadValue, NetError, ("value",)),
    (BadLine, NetError, ("line", "why")),
    (NoText, NetError, ("at",)),
    (TooLong, NetError, ("length",)),
    (BadNet, NetError, ("where",)),
    (BadText, NetError, ("line",)),
    (BadChart, NetError, ("where",)),
    (Broken, NetError, ("line", "word")),
    (BadChange, NetError, ("what",)),
    (BadPair, NetError, ("what",)),
    (BadDeed, NetError, ("at",)),
    (Twice, NetError, ("name",)),
    (NoName, Missing, ("name",)),
    (TooMany, Full, ("what", "count")),
    (NothingLeft, IndexError, ()),
]
NAMES = [
    "NetError", "Missing", "Full", "BadValue", "BadLine", "NoText", "TooLong", "BadNet", "BadText",
    "BadChart", "Broken", "BadChange", "BadPair", "BadDeed", "Twice", "NoName", "TooMany",
    "NothingLeft",
]
# Python's own errors that a base class might bring along by mistake.
PYTHONS = [
    ValueError, LookupError, IndexError, KeyError, RuntimeError, ArithmeticError, TypeError,
    AttributeError, NotImplementedError, StopIteration, OSError, AssertionError, RecursionError,
]


def made(kind, names):
    """An error of a class, with a word for each of its attributes."""
    return kind(*[f"its {name}" for name in names])


def caught(error, kind):
    """Whether an error is caught by the name of a class."""
    try:
        raise error
    except kind:
        return True
    except Exception:
        return False


class Bases(unittest.TestCase):
    def test_each_class_is_defined_in_its_file(self):
        for name in NAMES:
            kind = getattr(errors, name)
            self.assertTrue(inspect.isclass(kind), name)
            self.assertEqual(kind.__module__, "lookingnets.errors")
            self.assertEqual(kind.__name__, name)

    def test_the_three_roots(self):
        for kind, base in ROOTS:
            self.assertEqual(kind.__bases__, (base,))

    def test_direct_base_classes(self):
        for kind, base, _ in RAISED:
            self.assertEqual(kind.__bases__, (base,), kind)

    def test_caught_by_its_base_classes(self):
        for kind, base, names in RAISED:
            for wide in kind.__mro__[:-1]:
                self.assertTrue(caught(made(kind, names), wide), (kind, wide))
            self.assertTrue(caught(made(kind, names), base))
        self.assertTrue(caught(BadValue(1), ValueError))
        self.assertTrue(caught(NoName(1), LookupError))
        self.assertTrue(caught(TooMany(1, 2), RuntimeError))
        self.assertTrue(caught(NothingLeft(), IndexError))
        self.assertTrue(caught(NothingLeft(), LookupError))

    def test_caught_by_no_other_class_of_the_interface(self):
        kinds = [kind for kind, _, _ in RAISED] + [kind for kind, _ in ROOTS]
        for kind, base, names in RAISED:
            for other in kinds:
                expected = other is kind or other is base
                self.assertEqual(caught(made(kind, names), other), expected, (kind, other))
        for kind, _ in ROOTS:
            for other in kinds:
                self.assertEqual(issubclass(kind, other), kind is other, (kind, other))

    def test_caught_by_no_other_error_of_python(self):
        pythons = {NetError: (ValueError,), Missing: (LookupError,), Full: (RuntimeError,),
                   IndexError: (IndexError, LookupError)}
        for kind, base, names in RAISED:
            for other in PYTHONS:
                expected = other in pythons[base]
                self.assertEqual(caught(made(kind, names), other), expected, (kind, other))


class Attributes(unittest.TestCase):
    def same(self, held, passed):
        """Looks whether an attribute is what was passed; a list may have been copied."""
        if isinstance(passed, (list, tuple)):
            self.assertEqual(held, passed)
            self.assertEqual(repr(held), repr(passed))
        else:
            self.assertIs(held, passed)

    def test_values_of_any_kind_by_position_and_by_name(self):
        for kind, _, names in RAISED:
            for value in any_values():
                expected = [value, (kind, value)][:len(names)]
                by_place = kind(*expected)
                by_name = kind(**dict(zip(names, expected)))
                for name, passed in zip(names, expected):
                    self.same(getattr(by_place, name), passed)
                    self.same(getattr(by_name, name), passed)

    def test_parameters_have_their_names_and_order(self):
        for kind, _, names in RAISED:
            if names:
                parameters = tuple(inspect.signature(kind).parameters)
                self.assertEqual(parameters, names, kind)

    def test_names_may_come_in_any_order(self):
        error = BadLine(why="form", line=3)
        self.assertEqual((error.line, error.why), (3, "form"))
        error = Broken(word="shape", line=0)
        self.assertEqual((error.line, error.word), (0, "shape"))
        error = TooMany(count=9, what="fittings")
        self.assertEqual((error.what, error.count), ("fittings", 9))
        error = BadLine(4, why="many")
        self.assertEqual((error.line, error.why), (4, "many"))

    def test_the_code_is_the_name_of_the_class(self):
        for kind, _, names in RAISED:
            self.assertEqual(made(kind, names).code, kind.__name__)
        codes = [made(kind, names).code for kind, _, names in RAISED]
        self.assertEqual(codes, [
            "BadValue", "BadLine", "NoText", "TooLong", "BadNet", "BadText", "BadChart", "Broken",
            "BadChange", "BadPair", "BadDeed", "Twice", "NoName", "TooMany", "NothingLeft",
        ])

    def test_two_errors_of_one_class_keep_their_own_values(self):
        for kind, _, names in RAISED:
            first = kind(*[("first", name) for name in names])
            second = kind(*[("second", name) for name in names])
            for name in names:
                self.assertEqual(getattr(first, name), ("first", name))
                self.assertEqual(getattr(second, name), ("second", name))
            self.assertEqual(first.code, second.code)

    def test_a_raised_error_keeps_its_values(self):
        for kind, _, names in RAISED:
            with self.assertRaises(kind) as held:
                raise made(kind, names)
            for name in names:
                self.assertEqual(getattr(held.exception, name), f"its {name}")
            self.assertEqual(held.exception.code, kind.__name__)

    def test_numbers_of_thousands_of_digits_are_kept(self):
        for kind, _, names in RAISED:
            error = kind(*[10 ** 5000 for _ in names])
            for name in names:
                self.assertEqual(getattr(error, name), 10 ** 5000)

    def test_a_list_that_is_passed_is_not_changed(self):
        for kind, _, names in RAISED:
            passed = [[1, [2]] for _ in names]
            kind(*passed)
            self.assertEqual(passed, [[1, [2]] for _ in names])


if __name__ == "__main__":
    unittest.main()
