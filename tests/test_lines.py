"""Points [8] and [9], and the section lookingnets/lines.py of the interface."""

import copy
import inspect
import unittest

from lookingnets import lines
from lookingnets.expressions import RESERVED
from lookingnets.lines import (
    KINDS, is_line, is_look, line_names, line_text, read_line, related,
)
from tests.kinds import any_values

PARAMETERS = {
    "is_line": ["value"], "is_look": ["line"], "line_names": ["line"], "line_text": ["line"],
    "read_line": ["text"], "related": ["relation", "a", "b"],
}
TWELVE = ("sign", "place", "a", "b", "c", "d", "e", "f", "g", "h", "i", "j")
SOME = ((0, 1), (1, 1), (1, 2), (-99, 1), (99, 1), (1, 9999), (-7, 3))
# Each with its text.
TEXTS = [
    (("be", "x", ("1",)), "let x be 1"),
    (("be", "x", ("-9",)), "let x be -9"),
    (("be", "a1b2c3", ("sign",)), "let a1b2c3 be sign"),
    (("be", "x", ("-", "-", "len", "1", "place")), "let x be - - len 1 place"),
    (("be", "x", ("if", "not", "a", "mod", "b", "9", "div", "c", "1")),
     "let x be if not a mod b 9 div c 1"),
    (("be", "x", ("/=", "<=", ">", "a", "b", ">=", "c", "d", "x")),
     "let x be /= <= > a b >= c d x"),
    (("table", "x", ("a", "sign"), ((0, 1), (1, 1), (1, 2), (0, 1))),
     "let x table a sign : 0 1 1/2 0"),
    (("table", "x", (), ((3, 1),)), "let x table : 3"),
    (("table", "x", (), ()), "let x table :"),
    (("table", "x", ("place",), ()), "let x table place :"),
    (("table", "x", ("a", "a"), SOME), "let x table a a : 0 1 1/2 -99 99 1/9999 -7/3"),
    (("first", "x", "sign", "place", "=", "b", 0), "let x first sign where place = b else 0"),
    (("first", "x", "y", "k", "/=", "q", 9), "let x first y where k /= q else 9"),
    (("last", "x", "y", "k", "<", "q", -9), "let x last y where k < q else -9"),
    (("last", "x", "sign", "a", (((0, 1), (1, 1)), ((1, 2), (2, 1))), "place", 0),
     "let x last sign where a pairs place 0:1 1/2:2 else 0"),
    (("first", "x", "y", "k", (), "q", -1), "let x first y where k pairs q else -1"),
    (("mean", "x", "x", "x", "<=", "x", 5), "let x mean x where x <= x else 5"),
    (("mean", "x", "y", "k", (((-1, 2), (-99, 1)),), "q", 1),
     "let x mean y where k pairs q -1/2:-99 else 1"),
    (("count", "x", "k", ">", "q"), "let x count where k > q"),
    (("count", "x", "sign", ">=", "sign"), "let x count where sign >= sign"),
    (("count", "x", "a", (), "a"), "let x count where a pairs a"),
    (("count", "x", "a", (((0, 1), (0, 1)), ((0, 1), (0, 1)), ((-1, 1), (3, 1))), "b"),
     "let x count where a pairs b 0:0 0:0 -1:3"),
]
BE = ("be", "x", ("+", "a", "1"))
TABLE = ("table", "x", ("a", "sign"), ((0, 1), (1, 2)))
FIRST = ("first", "x", "y", "k", "=", "q", 0)
COUNT = ("count", "x", "k", "=", "q")
PAIRED = ("last", "x", "y", "k", (((0, 1), (1, 2)), ((1, 1), (0, 1))), "q", 0)
COUNTED = ("count", "x", "k", (((0, 1), (1, 2)),), "q")


def bent(line, at, part):
    """A line with another part."""
    return line[:at] + (part,) + line[at + 1:]


class Interface(unittest.TestCase):
    def test_names_and_parameters(self):
        for name, parameters in PARAMETERS.items():
            function = getattr(lines, name)
            self.assertTrue(inspect.isfunction(function), name)
            self.assertEqual(function.__module__, "lookingnets.lines")
            self.assertEqual(list(inspect.signature(function).parameters), parameters)

    def test_kinds(self):
        self.assertEqual(KINDS, ("be", "table", "first", "last", "count", "mean"))

    def test_parameters_by_name(self):
        self.assertIs(is_line(value=BE), True)
        self.assertIs(is_look(line=BE), False)
        self.assertEqual(line_names(line=BE), ("a",))
        self.assertEqual(line_text(line=BE), "let x be + a 1")
        self.assertEqual(read_line(text="let x be + a 1"), BE)
        self.assertIs(related(b=(1, 1), a=(0, 1), relation="<"), True)


class WhatIsALine(unittest.TestCase):
    def no_lines(self, values):
        for value in values:
            self.assertIs(is_line(value), False, str(value)[:200])

    def test_lines(self):
        for line, _ in TEXTS:
            self.assertIs(is_line(line), True, line)
        for line in [BE, TABLE, FIRST, COUNT, PAIRED, COUNTED]:
            self.assertIs(is_line(line), True, line)

    def test_each_relation_and_each_look(self):
        for relation in ["=", "/=", "<", "<=", ">", ">=", (), (((1, 2), (1, 1)),)]:
            for kind in ["first", "last", "mean"]:
                self.assertIs(is_line((kind, "x", "y", "k", relation, "q", 0)), True)
            self.assertIs(is_line(("count", "x", "k", relation, "q")), True)

    def test_any_value(self):
        self.no_lines(any_values())
        self.no_lines(["let x be 1", ("be",), ("be", "x"), ("count", "x"), ("table", "x")])

    def test_the_kind(self):
        for line in [BE, TABLE, FIRST, COUNT]:
            self.no_lines([bent(line, 0, part) for part in any_values()])
            wrong = ["let", "Be", "be ", "", "tables", "firs", "where", "sign", "x", ("be",), ["be"]]
            self.no_lines([bent(line, 0, part) for part in wrong])
        self.no_lines([bent(BE, 0, kind) for kind in KINDS if kind != "be"])
        self.no_lines([bent(TABLE, 0, kind) for kind in KINDS if kind != "table"])
        self.no_lines([bent(COUNT, 0, kind) for kind in KINDS if kind != "count"])
        self.no_lines([bent(FIRST, 0, kind) for kind in ["be", "table", "count"]])
        for kind in ["first", "last", "mean"]:
            self.assertIs(is_line(bent(FIRST, 0, kind)), True)

    def test_the_own_name(self):
        wrong = any_values() + list(RESERVED)
        wrong += ["", "X", "1x", "abcdefg", "x y", "x\n", "x_", "-x", ("x",), ["x"], "1", "=", ":"]
        for line in [BE, TABLE, FIRST, COUNT, PAIRED]:
            self.no_lines([bent(line, 1, part) for part in wrong])
            for right in ["a", "z9", "abcdef", "a12345", "let1", "signs", "v0"]:
                self.assertIs(is_line(bent(line, 1, right)), True)

    def test_the_names_of_a_look(self):
        wrong = any_values() + [word for word in RESERVED if word not in ("sign", "place")]
        wrong += ["", "X", "1x", "abcdefg", "x y", ("x",), ["x"], "1", "="]
        for line, places in [(FIRST, (2, 3, 5)), (PAIRED, (2, 3, 5)), (COUNT, (2, 4))]:
            for at in places:
                self.no_lines([bent(line, at, part) for part in wrong])
                for right in ["sign", "place", "x", "abcdef"]:
                    self.assertIs(is_line(bent(line, at, right)), True)

    def test_the_relation(self):
        wrong = [part for part in any_values() if part != ()]
        wrong += ["==", "!=", "", "= ", "=>", "pairs", "+", ("=",), ["="], [], ["<"], "<>"]
        wrong += [[((0, 1), (1, 1))], ([(0, 1), (1, 1)],), (([0, 1], (1, 1)),)]
        wrong += [(((0, 1), [1, 1]),), (((0, 1),),), (((0, 1), (1, 1), (1, 1)),)]
        wrong += [(((0, 2), (1, 1)),), (((0, 1), (2, 2)),), (((0, 1), (100, 1)),)]
        wrong += [(((-100, 1), (1, 1)),), (((0, 1), (1, 10000)),), ((0, 1),), ((0, 1), (1, 1))]
        wrong += [(((0, 1), (True, 1)),), (((False, 1), (1, 1)),), (((0, True), (1, 1)),)]
        wrong += [((0, 1), ((0, 1), (1, 1))), (((0, 1), (1, 1)), ()), (((0, 1), (1, 1)), None)]
        wrong += [(((0, 1), 1),), ((0, (1, 1)),), "".join(["="] * 9)]
        for line, at in [(FIRST, 4), (PAIRED, 4), (COUNT, 3), (COUNTED, 3)]:
            self.no_lines([bent(line, at, part) for part in wrong])
        many = tuple(((p, 1), (-p, 1)) for p in range(-99, 100))
        self.assertIs(is_line(bent(PAIRED, 4, many * 5)), True)
        self.assertIs(is_line(bent(COUNTED, 3, many * 5)), True)

    def test_the_number_of_a_look(self):
        wrong = [part for part in any_values() if part not in (0, 1, -1, 7)]
        wrong += [True, False, "0", "1", (0, 1), (1, 2), [1], -10, 10, 99, -99]
        for kind in ["first", "last", "mean"]:
            line = bent(FIRST, 0, kind)
            self.no_lines([bent(line, 6, part) for part in wrong])
            for right in range(-9, 10):
                self.assertIs(is_line(bent(line, 6, right)), True)

    def test_the_expression(self):
        wrong = any_values() + ["1", ["1"], (), ("1", "1"), ("+", "1"), ("10",), ("x y",)]
        wrong += [("be",), ("+", ["1"], "1"), ("-0",), ("01",), ("mod", "1", "0"), ("else",)]
        self.no_lines([bent(BE, 2, part) for part in wrong])
        self.assertIs(is_line(bent(BE, 2, ("not",) * 29 + ("1",))), True)
        self.assertIs(is_line(bent(BE, 2, ("not",) * 30 + ("1",))), False)

    def test_the_names_of_a_table(self):
        wrong = [part for part in any_values() if part != ()]
        wrong += ["a", ["a"], [], ("a", "be"), ("A",), ("a", 1), (("a",),), ("a", ["b"]), ("a ",)]
        wrong += [TWELVE + ("k",), TWELVE[:11] + ("let",), ("a",) * 13, ("table",), ("1",)]
        self.no_lines([bent(TABLE, 2, part) for part in wrong])
        for right in [(), ("a",), ("sign", "place"), TWELVE, ("a",) * 12, ("x",)]:
            self.assertIs(is_line(bent(TABLE, 2, right)), True)

    def test_the_values_of_a_table(self):
        wrong = [part for part in any_values() if part not in ((), ((1, 2),), ((1, 2), (1, 3)))]
        wrong += [[], [(1, 2)], (1, 2), ([1, 2],), ("1",), (1,), ((2, 2),), ((100, 1),)]
        wrong += [((1, 2), (1, 10000)), ((-100, 1),), ((True, 1),), ((1, True),), ((1, 2), None)]
        wrong += [((1, 2),) * 401, ((1, 2),) * 399 + ((2, 4),), ((False, 1),)]
        self.no_lines([bent(TABLE, 3, part) for part in wrong])
        for right in [(), ((1, 2),), SOME, ((1, 2),) * 400, tuple((p, 1) for p in range(-99, 100))]:
            self.assertIs(is_line(bent(TABLE, 3, right)), True)

    def test_lists_in_the_place_of_tuples(self):
        for line in [BE, TABLE, FIRST, COUNT, PAIRED, COUNTED]:
            self.no_lines([list(line)])
            for at, part in enumerate(line):
                if isinstance(part, tuple):
                    self.no_lines([bent(line, at, list(part))])
        self.no_lines([("table", "x", ("a",), ([0, 1],))])

    def test_too_few_or_too_many_parts(self):
        for line in [BE, TABLE, FIRST, COUNT, PAIRED, COUNTED]:
            for many in range(len(line)):
                self.no_lines([line[:many]])
            for more in [None, 0, "", "x", (), line]:
                self.no_lines([line + (more,)])
            self.no_lines([line + line, (line,)])
        self.no_lines([COUNT + (0,), FIRST[:6], FIRST + (0,), TABLE + (((0, 1),),)])

    def test_look(self):
        for kind in ["first", "last", "mean"]:
            self.assertIs(is_look((kind, "x", "y", "k", "=", "q", 0)), True)
        self.assertIs(is_look(COUNT), True)
        self.assertIs(is_look(COUNTED), True)
        self.assertIs(is_look(BE), False)
        self.assertIs(is_look(TABLE), False)


class Names(unittest.TestCase):
    def test_in_order_and_each_once(self):
        for line, names in [
            (("be", "x", ("1",)), ()),
            (("be", "x", ("sign",)), ("sign",)),
            (("be", "x", ("+", "b", "+", "a", "b")), ("b", "a")),
            (("be", "x", ("if", "place", "sign", "a")), ("place", "sign", "a")),
            (("table", "x", (), ((1, 1),)), ()),
            (("table", "x", ("b", "a", "sign"), ()), ("b", "a", "sign")),
            (("table", "x", ("b", "a", "b", "a", "c"), ()), ("b", "a", "c")),
            (("first", "x", "y", "k", "=", "q", 0), ("y", "k", "q")),
            (("last", "x", "q", "k", "=", "y", 0), ("q", "k", "y")),
            (("mean", "x", "place", "sign", "=", "a", 0), ("place", "sign", "a")),
            (("first", "x", "a", "a", "=", "a", 0), ("a",)),
            (("last", "x", "a", "a", "=", "b", 0), ("a", "b")),
            (("mean", "x", "a", "b", "=", "a", 0), ("a", "b")),
            (("mean", "x", "a", "b", (), "b", 0), ("a", "b")),
            (("count", "x", "k", "=", "q"), ("k", "q")),
            (("count", "x", "q", "=", "k"), ("q", "k")),
            (("count", "x", "k", "=", "k"), ("k",)),
            (("count", "x", "place", (((1, 2), (1, 1)),), "k"), ("place", "k")),
        ]:
            self.assertEqual(line_names(line), names)


class Texts(unittest.TestCase):
    def test_there_and_back(self):
        for line, text in TEXTS:
            self.assertEqual(line_text(line), text)
            self.assertEqual(read_line(text), line)

    def test_the_longest(self):
        many = ("table", "x", TWELVE, ((-1, 2),) * 400)
        text = "let x table sign place a b c d e f g h i j :" + " -1/2" * 400
        self.assertEqual(line_text(many), text)
        self.assertEqual(read_line(text), many)
        self.assertIsNone(read_line(text + " 0"))
        self.assertIsNone(read_line(text.replace(" : ", " k : ", 1)))
        paired = ("count", "x", "a", (((1, 2), (3, 1)),) * 5000, "b")
        text = "let x count where a pairs b" + " 1/2:3" * 5000
        self.assertEqual(line_text(paired), text)
        self.assertEqual(read_line(text), paired)
        self.assertIsNone(read_line("let x be" + " not" * 30 + " 1"))
        self.assertEqual(read_line("let x be" + " not" * 29 + " 1"), ("be", "x", ("not",) * 29 + ("1",)))

    def test_read_types(self):
        line = read_line("let x last sign where a pairs place 0:1 1/2:2 else 0")
        self.assertIs(type(line), tuple)
        self.assertIs(type(line[4]), tuple)
        self.assertIs(type(line[4][0]), tuple)
        self.assertIs(type(line[6]), int)
        line = read_line("let x table a : 1 2")
        self.assertIs(type(line[2]), tuple)
        self.assertIs(type(line[3]), tuple)

    def test_any_value(self):
        for value in any_values():
            self.assertIsNone(read_line(value))
        for line, text in TEXTS:
            for value in [line, [text], (text,), list(line), text.encode()]:
                self.assertIsNone(read_line(value))

    def test_almost_right(self):
        for _, text in TEXTS:
            words = text.split(" ")
            wrong = [text + " ", " " + text, text + "\n", "\n" + text, text + " \n", text + " else"]
            wrong += [text.replace(" ", "  ", 1), text.upper(), "let " + text, text + "\nlet y be 1"]
            for at in range(1, len(words)):
                wrong.append(" ".join(words[:at]) + "  " + " ".join(words[at:]))
                wrong.append(" ".join(words[:at]) + "\n" + " ".join(words[at:]))
            for at in range(min(len(words), 3)):
                wrong.append(" ".join(words[:at] + words[at + 1:]))
                wrong.append(" ".join(words[:at] + [words[at]] + words[at:]))
            for almost in wrong:
                self.assertIsNone(read_line(almost), almost)

    def test_wrong_words(self):
        for text in [
            "", "let", "let ", "let x", "let x ", "let x be", "let x be ", "let x is 1", "tell x",
            "set x be 1", "Let x be 1", "let X be 1", "let let be 1", "let sign be 1",
            "let abcdefg be 1", "let 1 be 1", "let x be 10", "let x be -10", "let x be -0",
            "let x be 01", "let x be +1", "let x be 1 1", "let x be +", "let x be + 1",
            "let x be mod 1 0", "let x be mod 1 a", "let x be y z", "let x be 1/2", "let x be be",
            "let x table", "let x table a", "let x table a 1", "let x table :1", "let x table: 1",
            "let x table : : 1", "let x table a : 1 : 2", "let x table : 1,", "let x table : ",
            "let x table : 2/4", "let x table : 2/2", "let x table : 0/1", "let x table : 3/1",
            "let x table : -0", "let x table : 0/3", "let x table : 00", "let x table : 01",
            "let x table : +1", "let x table : 1/02", "let x table : 1/-2", "let x table : --1",
            "let x table : 100", "let x table : -100", "let x table : 1/10000", "let x table : 1/0",
            "let x table : a", "let x table be : 1", "let x table 1 : 1", "let x table A : 1",
            "let x table : " + "9" * 5000, "let x table : 1/" + "9" * 5000,
            "let x count", "let x count where", "let x count where a", "let x count where a =",
            "let x count a = b", "let x count where a == b", "let x count where a b",
            "let x count where a = b c", "let x count where a = b else 0", "let x count a where a = b",
            "let x count where 1 = b", "let x count where a = 1", "let x count where a + b",
            "let x count where a pairs", "let x count where pairs a", "let x count where a pairs b 1",
            "let x count where a pairs b 1:", "let x count where a pairs b :1",
            "let x count where a pairs b :", "let x count where a pairs b 1:2:3",
            "let x count where a pairs b 1::2", "let x count where a pairs b 1:2,",
            "let x count where a pairs b 2/4:1", "let x count where a pairs b 1:2/4",
            "let x count where a pairs b -0:1", "let x count where a pairs b 1:-0",
            "let x count where a pairs b 01:1", "let x count where a pairs b 1:01",
            "let x count where a pairs b 100:1", "let x count where a pairs b 1:1/10000",
            "let x count where a pairs 1 1:1", "let x count where a pairs b 1:1 else 0",
            "let x count where a pairs b a:b", "let x count when a = b", "let x mean", "let x mean a",
            "let x mean a where", "let x mean a where b", "let x mean a where b =",
            "let x mean a where b = c", "let x mean a where b = c else", "let x mean a where b = c 0",
            "let x mean a where b = c else 10", "let x mean a where b = c else -10",
            "let x mean a where b = c else -0", "let x mean a where b = c else 00",
            "let x mean a where b = c else 1/2", "let x mean a where b = c else a",
            "let x mean a where b = c else 0 0", "let x mean a where b = c or 0",
            "let x mean a when b = c else 0", "let x mean where b = c else 0",
            "let x mean a a where b = c else 0", "let x mean 1 where b = c else 0",
            "let x mean a where 1 = c else 0", "let x mean a where b = 1 else 0",
            "let x mean a where b pairs c else", "let x mean a where b pairs c 1 else 0",
            "let x mean a where b pairs c 1:1", "let x mean a where b pairs c 1:1 0",
            "let x mean a where b pairs c 1:1 else 0 1:1", "let x mean a where b pairs else 0",
            "let x mean a where b pairs c else 1:1 else 0", "let x first be where b = c else 0",
            "let x last a where not = c else 0", "let x last a where b = else else 0",
            "let x mean a where b = c else " + "9" * 5000,
        ]:
            self.assertIsNone(read_line(text), text[:100])


class Related(unittest.TestCase):
    def test_signs(self):
        low, high = (1, 3), (1, 2)
        for relation, less, same, greater in [
            ("=", False, True, False), ("/=", True, False, True), ("<", True, False, False),
            ("<=", True, True, False), (">", False, False, True), (">=", False, True, True),
        ]:
            self.assertIs(related(relation, low, high), less)
            self.assertIs(related(relation, low, low), same)
            self.assertIs(related(relation, high, low), greater)
            self.assertIs(related(relation, (-2, 1), (-1, 1)), less)
            self.assertIs(related(relation, (2, 1), (-3, 1)), greater)
            self.assertIs(related(relation, (-1, 2), (1, 3)), less)
            self.assertIs(related(relation, (10, 1), (9, 1)), greater)
            self.assertIs(related(relation, (0, 1), (0, 1)), same)

    def test_pairs(self):
        pairs = (((0, 1), (1, 1)), ((1, 2), (-2, 1)))
        self.assertIs(related(pairs, (0, 1), (1, 1)), True)
        self.assertIs(related(pairs, (1, 2), (-2, 1)), True)
        self.assertIs(related(pairs, (1, 1), (0, 1)), False)
        self.assertIs(related(pairs, (-2, 1), (1, 2)), False)
        self.assertIs(related(pairs, (0, 1), (-2, 1)), False)
        self.assertIs(related(pairs, (1, 2), (1, 1)), False)
        self.assertIs(related(pairs, (0, 1), (0, 1)), False)
        self.assertIs(related((), (0, 1), (0, 1)), False)

    def test_arguments_stay(self):
        for line, _ in TEXTS:
            kept = copy.deepcopy(line)
            line_names(line), line_text(line), is_line(line)
            self.assertEqual(line, kept)
        value = ["be", "x", ["1"]]
        is_line(value), read_line(value)
        self.assertEqual(value, ["be", "x", ["1"]])


if __name__ == "__main__":
    unittest.main()
