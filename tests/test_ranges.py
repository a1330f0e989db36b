"""Points [10] and [11], and the section lookingnets/ranges.py of the interface."""

import copy
import inspect
import itertools
import unittest
from fractions import Fraction

from lookingnets import ranges
from lookingnets.ranges import line_range, means, rows_of_values
from tests import plainly
from tests.plainly import pair, pairs

PARAMETERS = {
    "means": ["values", "n"], "rows_of_values": ["ranges"], "line_range": ["line", "ranges", "n"],
}


def whole(*numbers):
    """The tuple of whole fractions."""
    return tuple((number, 1) for number in numbers)


class Interface(unittest.TestCase):
    def test_names_and_parameters(self):
        for name, parameters in PARAMETERS.items():
            function = getattr(ranges, name)
            self.assertTrue(inspect.isfunction(function), name)
            self.assertEqual(function.__module__, "lookingnets.ranges")
            self.assertEqual(list(inspect.signature(function).parameters), parameters)

    def test_parameters_by_name(self):
        self.assertEqual(means(n=2, values=[(0, 1), (1, 1)]), ((0, 1), (1, 2), (1, 1)))
        self.assertEqual(rows_of_values(ranges=[whole(3)]), [((3, 1),)])
        line = ("be", "x", ("a",))
        self.assertEqual(line_range(n=3, ranges={"a": whole(1, 2)}, line=line), whole(1, 2))


class Means(unittest.TestCase):
    def test_written_out(self):
        self.assertEqual(means([(3, 1)], 1), ((3, 1),))
        self.assertEqual(means([(3, 1)], 8), ((3, 1),))
        self.assertEqual(means([(0, 1), (1, 1)], 1), whole(0, 1))
        self.assertEqual(means([(0, 1), (1, 1)], 3), ((0, 1), (1, 3), (1, 2), (2, 3), (1, 1)))
        self.assertEqual(means([(1, 1), (0, 1)], 4), (
            (0, 1), (1, 4), (1, 3), (1, 2), (2, 3), (3, 4), (1, 1)))
        self.assertEqual(means([(-1, 1), (5, 1)], 2), ((-1, 1), (2, 1), (5, 1)))
        self.assertEqual(means([(0, 1), (1, 1), (3, 1)], 2), (
            (0, 1), (1, 2), (1, 1), (3, 2), (2, 1), (3, 1)))
        self.assertEqual(means([(-99, 1), (99, 1)], 3), whole(-99, -33, 0, 33, 99))

    def test_one_to_four_values_and_each_n(self):
        for values in [(0,), (-99,), (0, 1), (-7, 3), (1, 2, 4), (-1, 0, 1), (0, 1, 2, 3),
                       (-99, -98, 98, 99), (0, 1, 10, 99), (-5, 2, 3, 50)]:
            for n in range(1, 9):
                due = pairs(plainly.all_means([Fraction(value) for value in values], n))
                for some in [whole(*values), list(whole(*values)), whole(*reversed(values))]:
                    found = means(some, n)
                    self.assertEqual(found, due)
                    self.assertIs(type(found), tuple)

    def test_arguments_stay(self):
        values = [(2, 1), (0, 1)]
        means(values, 3)
        self.assertEqual(values, [(2, 1), (0, 1)])


class Rows(unittest.TestCase):
    def test_written_out(self):
        self.assertEqual(rows_of_values([]), [()])
        self.assertEqual(rows_of_values(()), [()])
        self.assertEqual(rows_of_values([((1, 2), (2, 1))]), [((1, 2),), ((2, 1),)])
        self.assertEqual(rows_of_values([whole(0, 1), whole(5, 6, 7)]), [
            whole(0, 5), whole(0, 6), whole(0, 7), whole(1, 5), whole(1, 6), whole(1, 7)])
        self.assertEqual(rows_of_values([whole(3), whole(0, 1), whole(4)]), [
            whole(3, 0, 4), whole(3, 1, 4)])
        self.assertEqual(rows_of_values([whole(0, 1)] * 2), [
            whole(0, 0), whole(0, 1), whole(1, 0), whole(1, 1)])

    def test_counted(self):
        some = [whole(0, 1), whole(*range(20)), whole(-3, 2, 9), ((1, 2), (2, 3)), whole(4)]
        for many in range(4):
            for picked in itertools.permutations(some, many):
                found = rows_of_values(list(picked))
                self.assertEqual(found, list(itertools.product(*picked)))
                self.assertIs(type(found), list)
                self.assertIs(type(found[0]), tuple)

    def test_new_and_arguments_stay(self):
        given = [whole(0, 1), whole(2)]
        kept = copy.deepcopy(given)
        first = rows_of_values(given)
        first.append(None)
        self.assertEqual(rows_of_values(given), [whole(0, 2), whole(1, 2)])
        self.assertEqual(given, kept)


class LineRange(unittest.TestCase):
    def test_be(self):
        some = {"a": whole(0, 1, 2), "b": ((-1, 2), (3, 1))}
        for words, due in [
            ("4", whole(4)), ("a", whole(0, 1, 2)), ("b", ((-1, 2), (3, 1))),
            ("- 0 a", whole(-2, -1, 0)), ("= a a", whole(1)), ("> a 0", whole(0, 1)),
            ("+ a b", ((-1, 2), (1, 2), (3, 2), (3, 1), (4, 1), (5, 1))),
            ("* b b", ((1, 4), (9, 1))), ("+ b a", ((-1, 2), (1, 2), (3, 2), (3, 1), (4, 1), (5, 1))),
            ("div a 2", whole(0, 1)), ("mod b 3", ((0, 1), (5, 2))), ("- a a", whole(0)),
        ]:
            line = ("be", "x", tuple(words.split()))
            self.assertEqual(line_range(line, some, 4), due)

    def test_be_with_many_results_or_results_that_are_no_values(self):
        some = {"a": whole(*range(20)), "b": whole(*range(0, 100, 20)), "c": ((1, 9999), (1, 2))}
        line = ("be", "x", ("+", "a", "b"))
        self.assertEqual(line_range(line, some, 4), whole(*range(100)))
        line = ("be", "x", ("*", "a", "a"))
        self.assertEqual(line_range(line, some, 4), whole(*[a * a for a in range(20)]))
        line = ("be", "x", ("*", "b", "b"))
        self.assertEqual(line_range(line, some, 1), whole(0, 400, 1600, 3600, 6400))
        line = ("be", "x", ("*", "c", "c"))
        self.assertEqual(line_range(line, some, 1), ((1, 99980001), (1, 4)))

    def test_table(self):
        some = {"a": whole(0, 1), "b": whole(0, 1)}
        line = ("table", "x", ("a", "b"), ((2, 1), (1, 2), (-1, 1), (1, 2)))
        self.assertEqual(line_range(line, some, 4), ((-1, 1), (1, 2), (2, 1)))
        self.assertEqual(line_range(("table", "x", (), ((7, 2),)), {}, 4), ((7, 2),))
        many = whole(*range(99, -1, -1))
        line = ("table", "x", ("a", "b"), many)
        some = {"a": whole(*range(10)), "b": whole(*range(10))}
        self.assertEqual(line_range(line, some, 4), whole(*range(100)))

    def test_first_and_last(self):
        some = {"y": ((-1, 2), (2, 1)), "k": whole(0), "q": whole(1)}
        for kind in ["first", "last"]:
            for relation in ["=", (), (((0, 1), (1, 1)),)]:
                for number, due in [
                    (0, ((-1, 2), (0, 1), (2, 1))), (2, ((-1, 2), (2, 1))),
                    (-9, ((-9, 1), (-1, 2), (2, 1))), (9, ((-1, 2), (2, 1), (9, 1))),
                ]:
                    line = (kind, "x", "y", "k", relation, "q", number)
                    self.assertEqual(line_range(line, some, 4), due)
            some["z"] = whole(*range(40))
            line = (kind, "x", "z", "k", "=", "q", -1)
            self.assertEqual(line_range(line, some, 4), whole(*range(-1, 40)))

    def test_count(self):
        some = {"k": whole(0), "q": whole(1)}
        for n in range(1, 9):
            due = whole(*range(n + 1))
            self.assertEqual(line_range(("count", "x", "k", "=", "q"), some, n), due)
            self.assertEqual(line_range(("count", "x", "k", (), "k"), some, n), due)

    def test_mean(self):
        some = {"y": whole(0, 1), "k": whole(0), "q": whole(1), "one": whole(3),
                "four": whole(-99, 0, 1, 99)}
        for number, due in [
            (0, ((0, 1), (1, 3), (1, 2), (2, 3), (1, 1))),
            (9, ((0, 1), (1, 3), (1, 2), (2, 3), (1, 1), (9, 1))),
            (-1, ((-1, 1), (0, 1), (1, 3), (1, 2), (2, 3), (1, 1))),
        ]:
            line = ("mean", "x", "y", "k", "=", "q", number)
            self.assertEqual(line_range(line, some, 3), due)
        line = ("mean", "x", "one", "k", "=", "q", 3)
        self.assertEqual(line_range(line, some, 8), whole(3))
        for n in range(1, 9):
            line = ("mean", "x", "four", "k", "=", "q", -9)
            due = sorted({*plainly.all_means([-99, 0, 1, 99], n), Fraction(-9)})
            self.assertEqual(line_range(line, some, n), tuple(pair(x) for x in due))
        self.assertGreater(len(due), 40)

    def test_many_lines(self):
        lines = [
            ("be", "a", ("-", "sign", "place")),
            ("table", "b", ("sign",), ((1, 2), (-3, 1), (1, 2))),
            ("first", "c", "b", "a", "<", "b", 4),
            ("count", "d", "a", "=", "sign"),
            ("mean", "e", "sign", "b", (((1, 2), (0, 1)),), "sign", -2),
            ("be", "f", ("if", "c", "*", "d", "e", "b")),
            ("last", "g", "f", "d", ">=", "a", 0),
        ]
        due = plainly.ranges_of(3, 4, lines)
        some = {"sign": whole(0, 1, 2), "place": whole(0, 1, 2, 3)}
        for line in lines:
            some[line[1]] = line_range(line, some, 4)
            self.assertIs(type(some[line[1]]), tuple)
            self.assertEqual(some[line[1]], pairs(due[line[1]]))

    def test_arguments_stay(self):
        some = {"a": whole(0, 1), "b": whole(1, 2)}
        for line in [("be", "x", ("+", "a", "b")), ("table", "x", ("b", "a"), whole(1, 2, 3, 4)),
                     ("mean", "x", "a", "a", "=", "b", 5), ("last", "x", "a", "a", "=", "b", 5)]:
            kept = copy.deepcopy((line, some))
            line_range(line, some, 3)
            self.assertEqual((line, some), kept)


if __name__ == "__main__":
    unittest.main()
