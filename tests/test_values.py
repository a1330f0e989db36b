"""Points [2] to [4], and the section lookingnets/values.py of the interface."""

import copy
import inspect
import itertools
import unittest
from fractions import Fraction
from math import gcd

from lookingnets import values
from lookingnets.errors import BadValue, NetError
from lookingnets.values import (
    ascending, below, floor_of, fraction, is_fraction, is_value, mean_of, minus, plus, quotient,
    read_value, times, value_text,
)
from tests.kinds import any_values, nested

PARAMETERS = {
    "is_fraction": ["value"], "is_value": ["value"], "fraction": ["p", "q"], "plus": ["a", "b"],
    "minus": ["a", "b"], "times": ["a", "b"], "quotient": ["a", "b"], "below": ["a", "b"],
    "floor_of": ["a"], "ascending": ["values"], "mean_of": ["values"], "value_text": ["value"],
    "read_value": ["text"],
}
# A prime number, so that fractions of large numbers are in lowest terms.
PRIME = 999999999999999989


def pair(x):
    """The tuple for a fraction of Python."""
    return (x.numerator, x.denominator)


def some_fractions():
    """Fractions of both signs, whole ones and others, small and large ones."""
    found = {Fraction(p, q) for p in range(-7, 8) for q in range(1, 6)}
    found |= {Fraction(99), Fraction(-99), Fraction(1, 9999), Fraction(-989900, 9999)}
    found |= {Fraction(PRIME, 7), Fraction(-7, PRIME), Fraction(10 ** 18 - 1, 2)}
    return [pair(x) for x in sorted(found)]


def no_fractions():
    """Values that are almost a fraction."""
    return [
        (1, 0), (0, 0), (-1, 0), (1, -1), (1, -2), (-1, -2), (0, -1), (0, 2), (0, 3), (2, 2),
        (2, 4), (-2, 4), (-3, 3), (10, 5), (6, 4), (99, 99), (9999, 9999), (10 ** 30, 10),
        [1, 2], [0, 1], [3, 1], (1, 2, 1), (1,), (), 1, "1/2", "1", ("1", "2"), (1, "2"),
        (True, 1), (False, 1), (1, True), (True, True), (0, True), (True, 2), (1, None), (None, 1),
        ((1, 2), 1), (1, (2, 1)), ((1, 2), (1, 2)), ((1, 2),), [(1, 2)], ([1], [2]),
    ]


class Interface(unittest.TestCase):
    def test_names_and_parameters(self):
        for name, parameters in PARAMETERS.items():
            function = getattr(values, name)
            self.assertTrue(inspect.isfunction(function), name)
            self.assertEqual(function.__module__, "lookingnets.values")
            self.assertEqual(list(inspect.signature(function).parameters), parameters)

    def test_parameters_by_name(self):
        self.assertIs(is_fraction(value=(1, 2)), True)
        self.assertIs(is_value(value=(1, 2)), True)
        self.assertEqual(fraction(p=2, q=4), (1, 2))
        self.assertEqual(fraction(q=4, p=2), (1, 2))
        self.assertEqual(fraction(p=3), (3, 1))
        self.assertEqual(fraction(6, q=4), (3, 2))
        self.assertEqual(plus(b=(1, 3), a=(1, 2)), (5, 6))
        self.assertEqual(minus(b=(1, 3), a=(1, 2)), (1, 6))
        self.assertEqual(times(b=(1, 3), a=(1, 2)), (1, 6))
        self.assertEqual(quotient(b=(1, 3), a=(1, 2)), (3, 2))
        self.assertIs(below(b=(1, 3), a=(1, 2)), False)
        self.assertEqual(floor_of(a=(7, 2)), 3)
        self.assertEqual(ascending(values=[(2, 1), (1, 1)]), ((1, 1), (2, 1)))
        self.assertEqual(mean_of(values=[(2, 1), (1, 1)]), (3, 2))
        self.assertEqual(value_text(value=(1, 2)), "1/2")
        self.assertEqual(read_value(text="1/2"), (1, 2))


class WhatIsAFraction(unittest.TestCase):
    def test_fractions(self):
        for value in some_fractions():
            self.assertIs(is_fraction(value), True, value)
        for p in range(-30, 31):
            for q in range(-30, 31):
                self.assertIs(is_fraction((p, q)), q >= 1 and gcd(p, q) == 1, (p, q))

    def test_zero_has_one_form(self):
        self.assertIs(is_fraction((0, 1)), True)
        self.assertIs(is_fraction((0, 2)), False)

    def test_numbers_of_any_size(self):
        self.assertIs(is_fraction((10 ** 18 - 1, 1)), True)
        self.assertIs(is_fraction((1, 10 ** 18 - 1)), True)
        self.assertIs(is_fraction((10 ** 5000, 1)), True)
        self.assertIs(is_fraction((-1, 10 ** 5000)), True)
        self.assertIs(is_fraction((10 ** 5000, 10)), False)

    def test_almost_fractions(self):
        for value in no_fractions():
            self.assertIs(is_fraction(value), False, value)
            self.assertIs(is_value(value), False, value)

    def test_values_of_any_kind(self):
        for value in any_values():
            self.assertIs(is_fraction(value), False)
            self.assertIs(is_value(value), False)


class WhatIsAValue(unittest.TestCase):
    def test_from_minus_99_to_99(self):
        for p in range(-99, 100):
            self.assertIs(is_value((p, 1)), True, p)
        for p in (100, -100, 101, -101, 1000, 10 ** 18 - 1, 1 - 10 ** 18, 10 ** 5000):
            self.assertIs(is_value((p, 1)), False)

    def test_just_within_and_just_beyond_the_bounds(self):
        for q in (2, 3, 98, 101, 5000, 9998, 9999):
            for sign in (1, -1):
                self.assertIs(is_value((sign * (99 * q - 1), q)), True, q)
                self.assertIs(is_value((sign * (99 * q + 1), q)), False, q)

    def test_q_is_at_most_9999(self):
        for p in (1, -1, 7, -7):
            self.assertIs(is_value((p, 9998)), True)
            self.assertIs(is_value((p, 9999)), True)
            self.assertIs(is_value((p, 10000)), False)
            self.assertIs(is_value((p, 10001)), False)
        self.assertIs(is_value((10000, 9999)), True)
        self.assertIs(is_value((1, 10 ** 18 - 1)), False)

    def test_zero(self):
        self.assertIs(is_value((0, 1)), True)


class LowestTerms(unittest.TestCase):
    def test_against_fractions_of_python(self):
        for p in range(-30, 31):
            for q in range(-30, 31):
                if q != 0:
                    self.assertEqual(fraction(p, q), pair(Fraction(p, q)), (p, q))

    def test_signs(self):
        self.assertEqual(fraction(6, 4), (3, 2))
        self.assertEqual(fraction(-6, 4), (-3, 2))
        self.assertEqual(fraction(6, -4), (-3, 2))
        self.assertEqual(fraction(-6, -4), (3, 2))
        self.assertEqual(fraction(5, -1), (-5, 1))
        self.assertEqual(fraction(0, -7), (0, 1))
        self.assertEqual(fraction(0, 7), (0, 1))

    def test_one_number_is_a_whole_fraction(self):
        for p in (-99, -1, 0, 1, 12, 10 ** 18 - 1):
            self.assertEqual(fraction(p), (p, 1))

    def test_large_numbers(self):
        self.assertEqual(fraction(10 ** 18 - 1, 9), (111111111111111111, 1))
        self.assertEqual(fraction(PRIME * 6, PRIME * 4), (3, 2))
        self.assertEqual(fraction(10 ** 5000, 10 ** 5001), (1, 10))

    def test_it_gives_a_fraction(self):
        for p, q in ((4, -6), (0, -3), (7, 7), (-10 ** 30, 10)):
            self.assertIs(is_fraction(fraction(p, q)), True)

    def test_no_division_by_zero(self):
        for p in (0, 1, -1, 10 ** 18 - 1):
            with self.assertRaises(BadValue) as held:
                fraction(p, 0)
            self.assertEqual(held.exception.value, 0)
            self.assertEqual(held.exception.code, "BadValue")
        with self.assertRaises(NetError):
            fraction(1, q=0)


class Reckoning(unittest.TestCase):
    def test_against_fractions_of_python(self):
        for a, b in itertools.product(some_fractions(), repeat=2):
            x = Fraction(*a)
            y = Fraction(*b)
            for found in (plus(a, b), minus(a, b), times(a, b)):
                self.assertIs(is_fraction(found), True, found)
            self.assertEqual(plus(a, b), pair(x + y), (a, b))
            self.assertEqual(minus(a, b), pair(x - y), (a, b))
            self.assertEqual(times(a, b), pair(x * y), (a, b))
            self.assertIs(below(a, b), x < y, (a, b))
            if y != 0:
                self.assertEqual(quotient(a, b), pair(x / y), (a, b))
                self.assertIs(is_fraction(quotient(a, b)), True, (a, b))

    def test_lowest_terms_and_sign(self):
        self.assertEqual(plus((1, 6), (1, 3)), (1, 2))
        self.assertEqual(plus((1, 2), (-1, 2)), (0, 1))
        self.assertEqual(minus((5, 6), (1, 3)), (1, 2))
        self.assertEqual(minus((1, 3), (1, 3)), (0, 1))
        self.assertEqual(times((2, 3), (3, 2)), (1, 1))
        self.assertEqual(times((0, 1), (-3, 7)), (0, 1))
        self.assertEqual(quotient((2, 3), (-4, 3)), (-1, 2))
        self.assertEqual(quotient((-2, 3), (-4, 3)), (1, 2))
        self.assertEqual(quotient((0, 1), (-4, 3)), (0, 1))
        self.assertEqual(quotient((3, 1), (1, 3)), (9, 1))

    def test_results_of_any_size_may_be_passed(self):
        big = (10 ** 18 - 1, 1)
        for _ in range(8):
            big = times(big, big)
        self.assertEqual(big, ((10 ** 18 - 1) ** 256, 1))
        self.assertEqual(quotient(big, big), (1, 1))
        self.assertEqual(minus(big, big), (0, 1))
        self.assertIs(below((1, 2), big), True)

    def test_below_is_strict(self):
        for a in some_fractions():
            self.assertIs(below(a, a), False)
        self.assertIs(below((1, 3), (1, 2)), True)
        self.assertIs(below((1, 2), (1, 3)), False)
        self.assertIs(below((-1, 2), (-1, 3)), True)
        self.assertIs(below((-1, 3), (-1, 2)), False)
        self.assertIs(below((2, 3), (1, 1)), True)

    def test_no_quotient_by_zero(self):
        for a in ((0, 1), (1, 1), (-1, 2), (99, 7)):
            with self.assertRaises(BadValue) as held:
                quotient(a, (0, 1))
            self.assertEqual(held.exception.value, (0, 1))
        with self.assertRaises(BadValue) as held:
            quotient(b=(0, 1), a=(1, 1))
        self.assertEqual(held.exception.value, (0, 1))

    def test_zero_is_taken_but_for_quotients(self):
        self.assertEqual(plus((0, 1), (0, 1)), (0, 1))
        self.assertEqual(minus((0, 1), (1, 2)), (-1, 2))
        self.assertEqual(times((0, 1), (0, 1)), (0, 1))
        self.assertIs(below((0, 1), (0, 1)), False)


class WholePart(unittest.TestCase):
    def test_the_example_of_the_document(self):
        self.assertEqual(floor_of((-1, 2)), -1)

    def test_not_above_and_the_greatest(self):
        for a in some_fractions():
            whole = floor_of(a)
            self.assertIs(type(whole), int)
            self.assertIs(below(a, (whole, 1)), False, a)
            self.assertIs(below(a, (whole + 1, 1)), True, a)

    def test_by_hand(self):
        for a, whole in (((0, 1), 0), ((1, 2), 0), ((3, 2), 1), ((3, 1), 3), ((-3, 1), -3),
                         ((-3, 2), -2), ((-1, 9999), -1), ((-5, 3), -2), ((5, 3), 1),
                         ((-99, 1), -99), ((989900, 9999), 98), ((-989900, 9999), -99)):
            self.assertEqual(floor_of(a), whole, a)

    def test_a_number_of_any_size(self):
        self.assertEqual(floor_of((10 ** 5000 + 1, 10)), 10 ** 4999)
        self.assertEqual(floor_of((-10 ** 5000 - 1, 10)), -10 ** 4999 - 1)


class Ascending(unittest.TestCase):
    def test_by_worth_and_not_as_tuples(self):
        self.assertEqual(ascending([(1, 2), (1, 3)]), ((1, 3), (1, 2)))
        self.assertEqual(ascending([(2, 3), (1, 1)]), ((2, 3), (1, 1)))
        self.assertEqual(ascending([(-1, 3), (-1, 2)]), ((-1, 2), (-1, 3)))
        self.assertEqual(ascending([(5, 9), (3, 5), (1, 2)]), ((1, 2), (5, 9), (3, 5)))

    def test_no_duplicates(self):
        self.assertEqual(ascending([(1, 2), (1, 2)]), ((1, 2),))
        self.assertEqual(ascending([(1, 2)] * 9), ((1, 2),))
        self.assertEqual(ascending([(0, 1), (1, 1), (0, 1), (1, 1), (0, 1)]), ((0, 1), (1, 1)))
        self.assertEqual(ascending([(3, 1), (1, 2), (3, 1), (-1, 1), (1, 2), (3, 1)]),
                         ((-1, 1), (1, 2), (3, 1)))

    def test_all_orders_of_a_few(self):
        few = [(-1, 1), (-1, 2), (0, 1), (1, 3), (1, 2)]
        for order in itertools.permutations(few + [(0, 1)]):
            self.assertEqual(ascending(list(order)), tuple(few))

    def test_many(self):
        many = some_fractions()
        turned = many[::-1] + many[::3] + many[1::2]
        self.assertEqual(ascending(turned), tuple(many))
        self.assertEqual(ascending([(p, 1) for p in range(1000, 0, -1)]),
                         tuple([(p, 1) for p in range(1, 1001)]))

    def test_the_shortest_lists(self):
        self.assertEqual(ascending([]), ())
        self.assertEqual(ascending([(1, 2)]), ((1, 2),))

    def test_a_tuple_in_the_place_of_the_list(self):
        self.assertEqual(ascending(()), ())
        self.assertEqual(ascending(((1, 1),)), ((1, 1),))
        self.assertEqual(ascending(((1, 1), (1, 2), (1, 1))), ((1, 2), (1, 1)))

    def test_it_gives_a_tuple(self):
        for many in range(5):
            self.assertIsInstance(ascending([(1, k) for k in range(1, many + 1)]), tuple)

    def test_large_numbers(self):
        near = [(PRIME - 1, PRIME), (1, 1), (PRIME - 2, PRIME)]
        self.assertEqual(ascending(near), (near[2], near[0], near[1]))


class Means(unittest.TestCase):
    def test_by_hand(self):
        self.assertEqual(mean_of([(1, 1)]), (1, 1))
        self.assertEqual(mean_of([(1, 1), (2, 1)]), (3, 2))
        self.assertEqual(mean_of([(1, 1), (0, 1), (0, 1)]), (1, 3))
        self.assertEqual(mean_of([(-1, 2), (1, 2)]), (0, 1))
        self.assertEqual(mean_of([(1, 2), (1, 3), (1, 6)]), (1, 3))
        self.assertEqual(mean_of([(5, 3)] * 8), (5, 3))
        self.assertEqual(mean_of([(-7, 1), (2, 1)]), (-5, 2))

    def test_against_fractions_of_python(self):
        many = some_fractions()
        for start in range(len(many)):
            part = many[start::5]
            expected = sum([Fraction(*a) for a in part]) / len(part)
            self.assertEqual(mean_of(part), pair(expected))
            self.assertIs(is_fraction(mean_of(part)), True)

    def test_a_tuple_in_the_place_of_the_list(self):
        self.assertEqual(mean_of(((1, 1), (2, 1))), (3, 2))

    def test_nothing_has_no_mean(self):
        for nothing in ([], ()):
            with self.assertRaises(BadValue) as held:
                mean_of(nothing)
            self.assertEqual(held.exception.value, ())
            self.assertIsInstance(held.exception.value, tuple)


class Texts(unittest.TestCase):
    def test_by_hand(self):
        for value, text in (((3, 1), "3"), ((-1, 2), "-1/2"), ((0, 1), "0"), ((1, 2), "1/2"),
                            ((-3, 1), "-3"), ((99, 1), "99"), ((100, 7), "100/7"),
                            ((1, 9999), "1/9999"), ((-10, 1), "-10"), ((10, 1), "10")):
            self.assertEqual(value_text(value), text)
            self.assertEqual(read_value(text), value)

    def test_there_and_back(self):
        for value in some_fractions():
            self.assertEqual(read_value(value_text(value)), value)
        for p in range(-40, 41):
            for q in range(1, 41):
                value = fraction(p, q)
                text = f"{value[0]}/{value[1]}" if value[1] != 1 else f"{value[0]}"
                self.assertEqual(value_text(value), text)
                self.assertEqual(read_value(text), value)
                self.assertIs(is_fraction(read_value(text)), True)

    def test_60_digits_have_a_text(self):
        most = 10 ** 60 - 1
        nines = "9" * 60
        for value, text in (((most, 1), nines), ((-most, 1), "-" + nines),
                            ((1, most), "1/" + nines), ((-1, most), "-1/" + nines),
                            ((most - 1, most), "9" * 59 + "8/" + nines),
                            ((1 - most, most), "-" + "9" * 59 + "8/" + nines),
                            ((10 ** 59, 1), "1" + "0" * 59), ((1, 10 ** 59), "1/1" + "0" * 59),
                            ((-most, 10 ** 59), "-" + nines + "/1" + "0" * 59)):
            self.assertEqual(value_text(value), text)
            self.assertEqual(read_value(text), value)

    def test_61_digits_have_none(self):
        most = 10 ** 60
        for value in ((most, 1), (-most, 1), (1, most), (-1, most), (most, 7), (-most, 7),
                      (most + 1, most), (most - 1, most), (most, most - 1), (7, most),
                      (10 ** 61, 1), (1, 10 ** 61), (10 ** 5000, 1), (-10 ** 5000, 1),
                      (1, 10 ** 5000), (10 ** 5000, 10 ** 5000 - 1)):
            self.assertIs(is_fraction(value), True)
            with self.assertRaises(BadValue) as held:
                value_text(value)
            self.assertEqual(held.exception.value, value)

    def test_texts_of_61_digits_are_none(self):
        for text in ("9" * 61, "-" + "9" * 61, "1" + "0" * 60, "-1" + "0" * 60, "1/" + "9" * 61,
                     "1/1" + "0" * 60, "1" + "0" * 60 + "/7", "-1" + "0" * 60 + "/7",
                     "9" * 60 + "/1" + "0" * 60):
            self.assertIsNone(read_value(text), text)

    def test_texts_of_thousands_of_digits_are_none(self):
        for many in (1000, 4300, 4301, 5000, 199999):
            for text in ("9" * many, "-" + "9" * many, "1/" + "9" * many, "9" * many + "/2",
                         "0" * many, "-" + "0" * many, "0" * many + "1", "1/" + "0" * many + "2",
                         "9" * many + "/" + "9" * many, "-" * many, "/" * many, " " * many + "1",
                         "1" + " " * many):
                self.assertIsNone(read_value(text))
        self.assertIsNone(read_value("9" * 400000))

    def test_values_that_have_no_text(self):
        for value in no_fractions() + any_values():
            with self.assertRaises(BadValue) as held:
                value_text(value)
            self.assertEqual(held.exception.value, value)
            self.assertEqual(repr(held.exception.value), repr(value))
        wrong = [1, [2]]
        with self.assertRaises(BadValue) as held:
            value_text(wrong)
        self.assertEqual(held.exception.value, [1, [2]])
        self.assertEqual(wrong, [1, [2]])


class NoTexts(unittest.TestCase):
    def test_signs(self):
        for text in ("+1", "++1", "+0", "--1", "-+1", "+-1", "1-", "1+", "-", "+", "--", "-0",
                     "--0", "-0/1", "-0/2", "1/-2", "-1/-2", "1/+2", "+1/2", "- 1", "-/2", "-1-1"):
            self.assertIsNone(read_value(text), text)

    def test_leading_zeros(self):
        for text in ("00", "01", "-01", "007", "000", "-00", "01/2", "1/02", "-01/2", "00/1",
                     "1/002", "0" * 60, "0" * 59 + "1"):
            self.assertIsNone(read_value(text), text)

    def test_not_in_lowest_terms(self):
        for text in ("2/4", "-2/4", "6/4", "3/3", "-3/3", "10/5", "0/2", "0/7", "4/2", "9999/99"):
            self.assertIsNone(read_value(text), text)

    def test_divided_by_one_or_zero(self):
        for text in ("3/1", "-3/1", "0/1", "1/1", "3/0", "0/0", "-1/0", "1/00", "1/-0", "1/01",
                     "1/-1"):
            self.assertIsNone(read_value(text), text)

    def test_blanks(self):
        for text in (" ", "", "\n", " 1", "1 ", " 1 ", "1 /2", "1/ 2", "1 / 2", "1/2 ", " 1/2",
                     "1\n", "\n1", "1/2\n", "1 2", "1\n2", "- 1/2", "  "):
            self.assertIsNone(read_value(text), text)

    def test_other_signs(self):
        for text in ("a", "1a", "a1", "0x1", "1e3", "1.0", ".5", "1.", "1,5", "1_0", "1/2/3", "1//2",
                     "/", "//", "/2", "1/", "-1/", "1:2", "(1, 2)", "1/a", "a/2", "one", "sign",
                     "1'", "_1", "1_", "1/2_", "0b1", "1L", "None", "inf", "nan", "1/1/1"):
            self.assertIsNone(read_value(text), text)

    def test_values_that_are_no_strings(self):
        for value in [None, True, False, 0, 1, -3, (1, 2), (3, 1), [1, 2], ["1"], ("1",), ["1", "2"],
                      (), [], nested(9), BadValue("1")]:
            self.assertIsNone(read_value(value))
        for value in any_values():
            self.assertIsNone(read_value(value))


class NothingChanges(unittest.TestCase):
    def test_lists_stay_as_they_are(self):
        passed = [(3, 1), (1, 2), (3, 1), (-1, 1), (1, 2)]
        kept = copy.deepcopy(passed)
        ascending(passed)
        self.assertEqual(passed, kept)
        mean_of(passed)
        self.assertEqual(passed, kept)

    def test_values_of_any_kind_stay_as_they_are(self):
        for value in (nested(5), [1, 2], [[1], [2]], ([1], [2]), [], [(1, 2)]):
            kept = copy.deepcopy(value)
            is_fraction(value)
            is_value(value)
            read_value(value)
            with self.assertRaises(BadValue):
                value_text(value)
            self.assertEqual(value, kept)

    def test_a_call_does_not_change_a_later_one(self):
        for _ in range(2):
            self.assertEqual(ascending([(2, 1), (1, 1)]), ((1, 1), (2, 1)))
            self.assertEqual(mean_of([(2, 1), (1, 1)]), (3, 2))
            self.assertEqual(fraction(3), (3, 1))


if __name__ == "__main__":
    unittest.main()
