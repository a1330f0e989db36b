"""Points [2], [6] and [7], and the section lookingnets/expressions.py of the interface."""

import copy
import inspect
import itertools
import random
import unittest
from fractions import Fraction
from math import floor

from lookingnets import expressions
from lookingnets.errors import Missing, NetError, NoName
from lookingnets.expressions import (
    RESERVED, evaluate, is_expression, is_name, is_own_name, is_word_name, names_in,
)
from lookingnets.values import is_fraction
from tests.kinds import any_values, nested

PARAMETERS = {
    "is_word_name": ["value"], "is_own_name": ["value"], "is_name": ["value"],
    "is_expression": ["value"], "names_in": ["words"], "evaluate": ["words", "values"],
}
WORDS = [
    "program", "let", "tell", "be", "table", "first", "last", "count", "mean", "where", "pairs",
    "else", "sign", "place", "min", "max", "mod", "div", "and", "or", "not", "if",
]
OF_TWO = ["+", "-", "*", "min", "max", "=", "/=", "<", "<=", ">", ">=", "and", "or"]
OWN_NAMES = [
    "a", "z", "b1", "a0", "z9", "len", "abcdef", "a12345", "v0", "v11", "zzzzzz", "x9y8z7", "t",
    "lets", "le", "tel", "tells", "b", "bee", "tab", "tabl", "tables", "firs", "first1", "las",
    "lasts", "coun", "counts", "mea", "means", "wher", "where0", "pair", "pairs1", "els", "elses",
    "sig", "signs", "sign0", "plac", "places", "mi", "mins", "ma", "maxs", "mo", "mods", "di",
    "divs", "an", "ands", "o", "ors", "no", "nots", "i", "ifs", "progra", "prog", "p", "elif",
]
NO_WORD_NAMES = [
    "", "abcdefg", "program", "programs", "a123456", "aaaaaaaaaa", "1", "0", "9", "1a", "0abc",
    "12", "123456", "A", "aB", "Abc", "ABC", "SIGN", "Sign", "sigN", "a_b", "_a", "a_", "_", "a-b",
    "-a", "-", "a.b", "a b", " a", "a ", "a\n", "\na", " ", "\n", "a/b", "a:b", "a,b", "a'", "`a",
    "{a", "a{", "a@", "[a", "~", "a~", "+", "*", "=", "/=", "<", "<=", ">", ">=", "-1", "1/2",
    "a/", "a:", "@", "`", "{", "a!", "(a)", "a" * 400000,
]


def told(words, values):
    """The rest of the words, and the value of what stands ahead, reckoned in another way."""
    word, rest = words[0], list(words[1:])
    if word in values:
        return rest, values[word]
    if word == "if":
        rest, a = told(rest, values)
        rest, b = told(rest, values)
        rest, c = told(rest, values)
        return rest, (b if a else c)
    if word == "not":
        rest, a = told(rest, values)
        return rest, Fraction(int(a == 0))
    if word in OF_TWO or word in ("mod", "div"):
        rest, a = told(rest, values)
        rest, b = told(rest, values)
        return rest, of_two(word, a, b)
    return rest, Fraction(int(word))


def of_two(word, a, b):
    """The value of an operator of two operands, for fractions of Python."""
    return Fraction({
        "+": lambda: a + b, "-": lambda: a - b, "*": lambda: a * b,
        "min": lambda: min(a, b), "max": lambda: max(a, b),
        "=": lambda: int(a == b), "/=": lambda: int(a != b), "<": lambda: int(a < b),
        "<=": lambda: int(a <= b), ">": lambda: int(a > b), ">=": lambda: int(a >= b),
        "and": lambda: int(a != 0 and b != 0), "or": lambda: int(a != 0 or b != 0),
        "div": lambda: floor(a / b), "mod": lambda: a - b * floor(a / b),
    }[word]())


def pair(x):
    """The tuple for a fraction of Python."""
    return (x.numerator, x.denominator)


def drawn(random_words, most):
    """An expression of at most so many words, drawn from a row that is the same each time."""
    if most < 3 or random_words.random() < 0.2:
        return [random_words.choice(["sign", "place", "a", "len", "x9"]
                                    + [str(k) for k in range(-9, 10)])]
    word = random_words.choice(OF_TWO + ["mod", "div", "not", "if"])
    if word in ("mod", "div"):
        return [word] + drawn(random_words, most - 2) + [str(random_words.randint(1, 9))]
    many = {"not": 1, "if": 3}.get(word, 2)
    out = [word]
    for _ in range(many):
        out = out + drawn(random_words, (most - 1) // many)
    return out


class Interface(unittest.TestCase):
    def test_names_and_parameters(self):
        for name, parameters in PARAMETERS.items():
            function = getattr(expressions, name)
            self.assertTrue(inspect.isfunction(function), name)
            self.assertEqual(function.__module__, "lookingnets.expressions")
            self.assertEqual(list(inspect.signature(function).parameters), parameters)

    def test_parameters_by_name(self):
        self.assertIs(is_word_name(value="sign"), True)
        self.assertIs(is_own_name(value="a"), True)
        self.assertIs(is_name(value="sign"), True)
        self.assertIs(is_expression(value=("1",)), True)
        self.assertEqual(names_in(words=("+", "b", "a")), ("b", "a"))
        self.assertEqual(evaluate(values={"a": (1, 2)}, words=("+", "a", "1")), (3, 2))
        self.assertEqual(evaluate(("a",), values={"a": (1, 2)}), (1, 2))


class WordNames(unittest.TestCase):
    def test_the_reserved_words_in_their_order(self):
        self.assertIsInstance(RESERVED, tuple)
        self.assertEqual(RESERVED, tuple(WORDS))

    def test_reserved_words(self):
        for word in WORDS:
            self.assertIs(is_word_name(word), len(word) <= 6, word)
            self.assertIs(is_own_name(word), False, word)
            self.assertIs(is_name(word), word in ("sign", "place"), word)

    def test_own_names_also_beginnings_and_continuations_of_reserved_words(self):
        for word in OWN_NAMES:
            self.assertIs(is_word_name(word), True, word)
            self.assertIs(is_own_name(word), True, word)
            self.assertIs(is_name(word), True, word)

    def test_each_beginning_and_each_continuation(self):
        for word in WORDS:
            near = [word[:k] for k in range(len(word) + 1)] + [word + "a", word + "1", "a" + word]
            for other in near:
                named = 1 <= len(other) <= 6
                self.assertIs(is_word_name(other), named, other)
                self.assertIs(is_own_name(other), named and other not in WORDS, other)
                given = other in ("sign", "place")
                self.assertIs(is_name(other), given or (named and other not in WORDS), other)

    def test_0_to_8_signs(self):
        for many in range(9):
            for word in ("z" * many, ("a" + "0" * 9)[:many], ("q9" * 9)[:many]):
                named = 1 <= many <= 6
                self.assertIs(is_word_name(word), named, word)
                self.assertIs(is_own_name(word), named, word)
                self.assertIs(is_name(word), named, word)

    def test_each_sign_from_the_space_to_the_tilde(self):
        signs = [chr(code) for code in range(32, 127) if chr(code) != "%"] + ["\n"]
        for sign in signs:
            letter = "a" <= sign <= "z"
            for word, named in ((sign, letter), (sign + "xy", letter),
                                ("x" + sign, letter or sign.isdigit()),
                                ("x" + sign + "y", letter or sign.isdigit()),
                                ("abcde" + sign, letter or sign.isdigit())):
                self.assertIs(is_word_name(word), named, repr(word))
                self.assertIs(is_own_name(word), named and word not in WORDS, repr(word))
                self.assertIs(is_name(word), named and word not in WORDS, repr(word))

    def test_no_names(self):
        for word in NO_WORD_NAMES:
            self.assertIs(is_word_name(word), False)
            self.assertIs(is_own_name(word), False)
            self.assertIs(is_name(word), False)

    def test_values_of_any_kind(self):
        for value in any_values() + [["a"], ("a",), ["s", "i"], ("sign",), ["sign"], NoName("a")]:
            self.assertIs(is_word_name(value), False)
            self.assertIs(is_own_name(value), False)
            self.assertIs(is_name(value), False)


class Expressions(unittest.TestCase):
    def right(self, text):
        self.assertIs(is_expression(tuple(text.split(" "))), True, text)

    def wrong(self, text):
        self.assertIs(is_expression(tuple(text.split(" "))), False, text)

    def test_integers(self):
        for k in range(-9, 10):
            self.right(str(k))
        for k in list(range(10, 130)) + list(range(-130, -9)) + [10 ** 18 - 1]:
            self.wrong(str(k))
        for word in ("-0", "+1", "+0", "00", "01", "-01", "09", "--1", "1-", "1/2", "-1/2", "3/1",
                     "0/1", "1.0", "1 ", " 1", "1\n", "", "-", "1_0", "0x1", "9" * 5000):
            self.assertIs(is_expression((word,)), False, word)

    def test_names(self):
        for word in OWN_NAMES + ["sign", "place"]:
            self.assertIs(is_expression((word,)), True, word)
        for word in NO_WORD_NAMES:
            if not (word.isdigit() and len(word) == 1) and word != "-1":
                self.assertIs(is_expression((word,)), False)
        for word in WORDS:
            self.assertIs(is_expression((word,)), word in ("sign", "place"), word)
            self.assertIs(is_expression(("+", word, "1")), word in ("sign", "place"), word)
            self.assertIs(is_expression(("+", "1", word)), word in ("sign", "place"), word)

    def test_the_example_of_the_document(self):
        self.right("- - len 1 place")

    def test_operators_with_two_operands(self):
        for word in OF_TWO:
            self.right(f"{word} a 1")
            self.right(f"{word} -9 sign")
            self.right(f"{word} + 1 2 place")
            self.right(f"{word} place + 1 2")
            self.right(f"{word} not 1 if 1 2 3")
            for end in ("", " a", " a b c", " a b 1 2"):
                self.wrong(word + end)
            self.wrong(f"a {word} b")
            self.wrong(f"a b {word}")

    def test_mod_and_div(self):
        for word in ("mod", "div"):
            for k in range(1, 10):
                self.right(f"{word} a {k}")
                self.right(f"{word} + a 1 {k}")
                self.right(f"{word} -3 {k}")
            for other in ("0", "-1", "-9", "10", "11", "a", "sign", "place", "01", "-0", "+1", "1/2",
                          "3/1", "x", "mod", "99"):
                self.wrong(f"{word} a {other}")
            for end in ("", " a", " 1", " a 1 2", " a + 1 1", " a not 1", " a if 1 1 1", " + a 1",
                        " a mod 3 1", " 1 2 3", " a b"):
                self.wrong(word + end)
            self.right(f"{word} {word} a 3 4")
            self.right(f"{word} not a 3")
            self.right(f"+ {word} a 3 {word} 0 4")
            self.right(f"if {word} a 3 {word} b 4 a")
            self.right(f"+ {word} a 3 0")
            self.right(f"+ {word} a 3 b")
            self.wrong(f"+ {word} a b 3")
            self.wrong(f"{word} {word} a 3 a")
            self.wrong(f"{word} {word} a b 3")

    def test_not_and_if(self):
        for text in ("not a", "not not 1", "if 1 2 3", "if a b c", "if if 1 2 3 4 5",
                     "if 1 if 2 3 4 5", "if 1 2 if 3 4 5", "not if 1 2 3", "if not 1 not 2 not 3"):
            self.right(text)
        for text in ("not", "not a b", "if", "if 1", "if 1 2", "if 1 2 3 4", "a not", "1 if 2 3",
                     "if not 1 2", "not not"):
            self.wrong(text)

    def test_a_word_too_few_and_one_too_many(self):
        for text in ("1", "a", "+ 1 2", "- - len 1 place", "mod a 3", "div + 1 2 3", "not a",
                     "if a b c", "if = a 0 + b 1 mod c 2", "and or 1 0 not 0"):
            words = text.split(" ")
            self.right(text)
            self.assertIs(is_expression(tuple(words[:-1])), False, text)
            for more in ("1", "a", "+", "not", "mod", "sign"):
                self.assertIs(is_expression(tuple(words + [more])), False, text)

    def test_other_words(self):
        for word in ("<>", "==", "!=", "=<", "=>", "/", "**", "//", "xor", "x=", "neg", "abs", "AND",
                     "Not", "IF", "+ ", " +", "", "(", ")", "- ", "--", "++", "&", "|", "~", "let"):
            self.assertIs(is_expression((word, "1", "2")), False, word)
            self.assertIs(is_expression((word, "1")), False, word)
        self.assertIs(is_expression(("+ 1 2",)), False)
        self.assertIs(is_expression(("+", "1 2")), False)
        self.assertIs(is_expression(("a b",)), False)

    def test_0_to_32_words(self):
        self.assertIs(is_expression(()), False)
        for many in range(1, 33):
            self.assertIs(is_expression(("not",) * (many - 1) + ("1",)), many <= 30, many)
            self.assertIs(is_expression(("not",) * (many - 1) + ("abcdef",)), many <= 30, many)
            if many % 2 == 1:
                half = many // 2
                self.assertIs(is_expression(("+",) * half + ("a",) * (half + 1)), many <= 30, many)
                self.assertIs(is_expression(("mod",) * half + ("a",) + ("3",) * half),
                              many <= 30, many)
            if many % 3 == 1:
                third = many // 3
                self.assertIs(is_expression(("if",) * third + ("a",) * (2 * third + 1)),
                              many <= 30, many)
        self.assertIs(is_expression(("not",) * 27 + ("+", "1", "2")), True)
        self.assertIs(is_expression(("not",) * 28 + ("+", "1", "2")), False)
        self.assertIs(is_expression(("not",) * 5000 + ("1",)), False)

    def test_a_list_is_none(self):
        for words in (["1"], ["a"], ["+", "1", "2"], []):
            self.assertIs(is_expression(words), False)
        for words in ((["1"],), ("+", ["1"], "2"), ("+", ("1",), "2"), (("+", "1", "2"),),
                      ("not", ["a"]), ("not", ("a",)), (["not"], "a"), ("mod", "a", ["3"])):
            self.assertIs(is_expression(words), False)

    def test_words_are_strings(self):
        for value in any_values():
            self.assertIs(is_expression(value), False)
            self.assertIs(is_expression((value,)), False)
            self.assertIs(is_expression(("not", value)), False)
            self.assertIs(is_expression((value, "a")), False)
            self.assertIs(is_expression(("mod", "a", value)), False)
            self.assertIs(is_expression(("+", value, "a")), False)
            self.assertIs(is_expression(("+", "a", value)), False)
        for value in (3, True, None, (3, 1), (1, 2), NoName("a"), nested(5)):
            self.assertIs(is_expression(("+", "1", value)), False)
            self.assertIs(is_expression(("div", "1", value)), False)

    def test_strings_are_none(self):
        for text in ("1", "a", "sign", "+ 1 2", "+12", "not a"):
            self.assertIs(is_expression(text), False)


class NamesIn(unittest.TestCase):
    def test_each_once_in_the_order_of_the_words(self):
        for text, names in (("1", ()), ("+ 1 -9", ()), ("a", ("a",)), ("sign", ("sign",)),
                            ("- - len 1 place", ("len", "place")), ("+ b a", ("b", "a")),
                            ("+ a + b a", ("a", "b")), ("if b a + b c", ("b", "a", "c")),
                            ("+ place sign", ("place", "sign")), ("mod z 3", ("z",)),
                            ("* + a a + a a", ("a",)), ("if not 1 x x", ("x",)),
                            ("and or min1 max1 not1", ("min1", "max1", "not1")),
                            ("+ z + y + x + w + place sign",
                             ("z", "y", "x", "w", "place", "sign"))):
            words = tuple(text.split(" "))
            self.assertIs(is_expression(words), True, text)
            found = names_in(words)
            self.assertEqual(found, names)
            self.assertIsInstance(found, tuple)

    def test_operators_are_no_names(self):
        for word in OF_TWO:
            self.assertEqual(names_in((word, "b", "a")), ("b", "a"))
        for word in ("mod", "div"):
            self.assertEqual(names_in((word, "b", "7")), ("b",))
        self.assertEqual(names_in(("not", "b")), ("b",))
        self.assertEqual(names_in(("if", "c", "b", "a")), ("c", "b", "a"))

    def test_many_names(self):
        words = ("+",) * 14 + tuple([f"n{k}" for k in range(14, -1, -1)])
        self.assertEqual(names_in(words), words[14:])


class Evaluate(unittest.TestCase):
    def worth(self, text, expected, **values):
        found = evaluate(tuple(text.split(" ")), values)
        self.assertEqual(found, expected, text)
        self.assertIs(is_fraction(found), True, text)

    def test_integers_and_names(self):
        for k in range(-9, 10):
            self.worth(str(k), (k, 1))
        for value in ((0, 1), (1, 2), (-7, 3), (99, 1)):
            self.worth("a", value, a=value)
            self.worth("sign", value, sign=value, place=(5, 1))
            self.worth("place", value, place=value, sign=(5, 1))

    def test_the_example_of_the_document(self):
        for size in range(1, 9):
            for place in range(size):
                self.worth("- - len 1 place", (size - 1 - place, 1), len=(size, 1), place=(place, 1))

    def test_the_order_of_the_operands(self):
        self.worth("- 5 3", (2, 1))
        self.worth("- 3 5", (-2, 1))
        self.worth("- - 9 3 2", (4, 1))
        self.worth("- 9 - 3 2", (8, 1))
        self.worth("< 1 2", (1, 1))
        self.worth("< 2 1", (0, 1))
        self.worth("mod 7 4", (3, 1))
        self.worth("div 7 4", (1, 1))
        self.worth("if 1 2 3", (2, 1))
        self.worth("if 0 2 3", (3, 1))
        self.worth("if - 1 1 if 1 2 3 if 0 4 5", (5, 1))

    def test_operators_of_two_for_many_fractions(self):
        many = [Fraction(p, q) for p in range(-5, 6) for q in (1, 2, 3)] + [Fraction(99, 7)]
        for word in OF_TWO:
            for a, b in itertools.product(many, repeat=2):
                found = evaluate((word, "a", "b"), {"a": pair(a), "b": pair(b)})
                self.assertEqual(found, pair(of_two(word, a, b)), (word, a, b))
                self.assertIs(is_fraction(found), True, (word, a, b))

    def test_mod_and_div_for_many_fractions(self):
        many = {Fraction(p, q) for p in range(-40, 41) for q in (1, 2, 3, 7)}
        for word in ("mod", "div"):
            for a, k in itertools.product(sorted(many), range(1, 10)):
                found = evaluate((word, "a", str(k)), {"a": pair(a)})
                self.assertEqual(found, pair(of_two(word, a, Fraction(k))), (word, a, k))

    def test_mod_and_div_by_hand(self):
        self.worth("div a 2", (-1, 1), a=(-1, 2))
        self.worth("mod a 2", (3, 2), a=(-1, 2))
        self.worth("div a 3", (-3, 1), a=(-7, 1))
        self.worth("mod a 3", (2, 1), a=(-7, 1))
        self.worth("div a 1", (-3, 1), a=(-5, 2))
        self.worth("mod a 1", (1, 2), a=(-5, 2))
        self.worth("div a 4", (0, 1), a=(7, 2))
        self.worth("mod a 4", (7, 2), a=(7, 2))
        self.worth("mod a 9", (0, 1), a=(-9, 1))
        self.worth("div a 9", (-1, 1), a=(-9, 1))
        self.worth("mod 9 9", (0, 1))
        self.worth("div 8 9", (0, 1))
        self.worth("mod a 7", (1, 3), a=(22, 3))
        self.worth("div a 7", (1, 1), a=(22, 3))

    def test_fractions_are_ordered_by_their_worth(self):
        values = {"a": (1, 2), "b": (1, 3)}
        self.worth("min a b", (1, 3), **values)
        self.worth("max a b", (1, 2), **values)
        self.worth("< a b", (0, 1), **values)
        self.worth("> a b", (1, 1), **values)
        self.worth("<= b a", (1, 1), **values)
        self.worth(">= b a", (0, 1), **values)
        values = {"a": (-1, 2), "b": (-1, 3)}
        self.worth("min a b", (-1, 2), **values)
        self.worth("max a b", (-1, 3), **values)
        self.worth("< a b", (1, 1), **values)
        self.worth("<= a a", (1, 1), **values)
        self.worth(">= a a", (1, 1), **values)
        self.worth("< a a", (0, 1), **values)
        self.worth("> a a", (0, 1), **values)

    def test_everything_but_zero_is_yes(self):
        for yes in ((1, 1), (-1, 1), (1, 2), (-1, 2), (99, 1), (1, 9999), (2, 1)):
            self.worth("not a", (0, 1), a=yes)
            self.worth("not not a", (1, 1), a=yes)
            self.worth("and a a", (1, 1), a=yes)
            self.worth("and a 0", (0, 1), a=yes)
            self.worth("and 0 a", (0, 1), a=yes)
            self.worth("or a 0", (1, 1), a=yes)
            self.worth("or 0 a", (1, 1), a=yes)
            self.worth("or a a", (1, 1), a=yes)
            self.worth("if a b c", (5, 7), a=yes, b=(5, 7), c=(8, 3))
        self.worth("not 0", (1, 1))
        self.worth("and 0 0", (0, 1))
        self.worth("or 0 0", (0, 1))
        self.worth("if 0 b c", (8, 3), b=(5, 7), c=(8, 3))

    def test_lowest_terms(self):
        self.worth("+ a b", (1, 2), a=(1, 6), b=(1, 3))
        self.worth("- a a", (0, 1), a=(5, 6))
        self.worth("* a b", (1, 1), a=(2, 3), b=(3, 2))
        self.worth("* 0 a", (0, 1), a=(-3, 7))
        self.worth("+ a a", (1, 1), a=(1, 2))

    def test_long_expressions(self):
        self.worth(" ".join(["+"] * 14 + ["a"] * 15), (15, 7), a=(1, 7))
        self.worth(" ".join(["*"] * 14 + ["a"] * 15), (2 ** 15, 3 ** 15), a=(2, 3))
        self.worth(" ".join(["not"] * 29 + ["a"]), (0, 1), a=(2, 3))
        self.worth(" ".join(["not"] * 28 + ["a"]), (1, 1), a=(2, 3))
        self.worth(" ".join(["div"] * 14 + ["a"] + ["2"] * 14), (61035, 1), a=(10 ** 9, 1))
        self.worth(" ".join(["mod", "div"] * 2 + ["a", "7", "8", "5", "4"]), (1, 1), a=(55, 1))

    def test_large_numbers(self):
        most = 10 ** 18 - 1
        self.worth(" ".join(["*"] * 14 + ["a"] * 15), (most ** 15, 1), a=(most, 1))
        self.worth("div a 9", (most // 9, 1), a=(most, 1))
        self.worth("+ a b", (most ** 2 + 1, most), a=(most, 1), b=(1, most))

    def test_drawn_expressions(self):
        values = {"sign": (3, 1), "place": (0, 1), "a": (-5, 2), "len": (7, 1), "x9": (2, 3)}
        plain = {name: Fraction(*value) for name, value in values.items()}
        row = random.Random(7)
        for most in range(1, 31):
            for _ in range(40):
                words = tuple(drawn(row, most))
                self.assertIs(is_expression(words), True, words)
                self.assertEqual(evaluate(words, values), pair(told(words, plain)[1]), words)

    def test_more_keys_than_names(self):
        values = {"b": (1, 2), "a": (5, 1), "sign": (1, 1), "place": (0, 1)}
        self.worth("+ a 1", (6, 1), **values)
        self.worth("3", (3, 1), **values)


class NamesThatAreNotThere(unittest.TestCase):
    def missing(self, text, values, name):
        with self.assertRaises(NoName) as held:
            evaluate(tuple(text.split(" ")), values)
        self.assertEqual(held.exception.name, name, text)

    def test_the_first_name_of_the_expression(self):
        self.missing("a", {}, "a")
        self.missing("sign", {}, "sign")
        self.missing("place", {"sign": (1, 1)}, "place")
        self.missing("+ b a", {}, "b")
        self.missing("+ a b", {}, "a")
        self.missing("+ b a", {"b": (1, 1)}, "a")
        self.missing("+ b a", {"a": (1, 1)}, "b")
        self.missing("- - len 1 place", {}, "len")
        self.missing("- - len 1 place", {"len": (3, 1)}, "place")
        self.missing("+ z + c + b a", {"z": (1, 1), "a": (1, 1)}, "c")
        self.missing("* + z z y", {"a": (1, 1)}, "z")
        self.missing("mod a 3", {"b": (1, 1)}, "a")
        self.missing("not a", {"aa": (1, 1)}, "a")

    def test_in_a_branch_that_is_not_taken(self):
        self.missing("if 1 2 a", {}, "a")
        self.missing("if 0 a 2", {}, "a")
        self.missing("if b b a", {"b": (1, 1)}, "a")
        self.missing("if b a b", {"b": (0, 1)}, "a")
        self.missing("if a 1 2", {}, "a")
        self.missing("and 0 a", {}, "a")
        self.missing("or 1 a", {}, "a")
        self.missing("and a 0", {}, "a")
        self.missing("or a 1", {}, "a")
        self.missing("* 0 a", {}, "a")
        self.missing("if 0 if 0 c b a", {"a": (1, 1)}, "c")
        self.missing("if 0 if 0 c b a", {"a": (1, 1), "c": (1, 1)}, "b")

    def test_other_keys_do_not_count(self):
        values = {None: (1, 1), 3: (1, 1), ("a",): (1, 1), "A": (1, 1), "a ": (1, 1), "": (1, 1)}
        self.missing("a", values, "a")

    def test_its_code_and_its_base_class(self):
        with self.assertRaises(Missing) as held:
            evaluate(("a",), {})
        self.assertEqual(held.exception.code, "NoName")
        self.assertNotIsInstance(held.exception, NetError)

    def test_no_names_and_no_keys(self):
        self.assertEqual(evaluate(("+", "1", "2"), {}), (3, 1))


class NothingChanges(unittest.TestCase):
    def test_the_dict_stays_as_it_is(self):
        values = {"b": (1, 2), "a": (5, 1)}
        evaluate(("if", "a", "+", "a", "b", "mod", "a", "3"), values)
        self.assertEqual(values, {"b": (1, 2), "a": (5, 1)})
        self.assertEqual(list(values), ["b", "a"])
        with self.assertRaises(NoName):
            evaluate(("+", "a", "c"), values)
        self.assertEqual(list(values), ["b", "a"])

    def test_values_of_any_kind_stay_as_they_are(self):
        for value in (["+", "1", "2"], [], [["a"]], nested(5), (["a"],), ["a", ["b"]]):
            kept = copy.deepcopy(value)
            is_word_name(value)
            is_own_name(value)
            is_name(value)
            is_expression(value)
            self.assertEqual(value, kept)

    def test_a_call_does_not_change_a_later_one(self):
        words = ("+", "a", "b")
        for value in ((1, 2), (5, 1)):
            self.assertEqual(names_in(words), ("a", "b"))
            self.assertEqual(evaluate(words, {"a": value, "b": (0, 1)}), value)
            with self.assertRaises(NoName):
                evaluate(words, {"a": value})
            self.assertIs(is_expression(words), True)
        self.assertEqual(RESERVED, tuple(WORDS))


if __name__ == "__main__":
    unittest.main()
